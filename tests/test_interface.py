"""Each name of the document's interface is defined in its own file, with the arguments that the document lists."""

import ast
import os
import unittest

PACKAGE = os.path.join(os.path.dirname(os.path.dirname(os.path.abspath(__file__))), "skidblame")
FUNCTIONS = {
    "names": ["is_integer(thing)", "is_name(thing)"],
    "programs": [
        "is_program(thing)", "is_watcher(thing)", "made(*, gap=1, wide=None, low=0, high=0, marks=())", "signs_of(program)",
        "is_stretch(program, thing)"],
    "sources": ["skids(source, place)", "stretch_of(source, move)"],
    "fittings": [
        "reached(source, told)", "fitting(source, told)", "how_many(source, told)", "is_fitting(source, told, thing)",
        "run_of(source, fitting)", "shows_run(source, fitting, thing)"],
    "weights": [
        "least(source, told, weights)", "greatest(source, told, weights)", "shows_least(source, told, weights, thing)",
        "shows_greatest(source, told, weights, thing)", "shows_none(source, told, thing)", "counts(source, told, places)", "surely(source, told)"],
    "spread": [
        "spread_of(source, weights)", "widest(source, weights)", "spread_bounds(source, weights)", "growth(source, weights)",
        "shows_spread(source, weights, value, thing)", "shows_growth(source, weights, thing)"],
    "shares": [
        "share_of(source, gains)", "worst_round(source, gains)", "share_bounds(source, gains)", "excess_of(source, gains)",
        "shows_round(source, gains, share, thing)", "shows_bounds(source, gains, share, thing)", "gains_of(source, weights, prices)"],
    "rules": [
        "rules_of(source)", "rule_gains(source, rule)", "wrong_share(source, rule)", "best_rules(source)", "shows_best(source, thing)",
        "best_papers(source)"],
    "covers": [
        "behind(source, places, sign)", "apart(one, other)", "difference(one, other)", "is_within(one, other)", "cover(one, other)",
        "shows_apart(one, other, thing)", "shows_cover(one, other, thing)"],
    "mends": [
        "marked(source, offers, choice)", "choices(offers)", "settled(source, weights, bound)", "cheapest(source, weights, bound, offers)",
        "shows_cheapest(source, weights, bound, offers, thing)", "breach(source, weights, bound)", "shows_breach(source, weights, bound, thing)",
        "greatest_high(source, weights, bound)"],
    "live": ["widths(watch)"],
    "texts": [
        "parse_program(text)", "parse_watcher(text)", "parse_told(text)", "parse_weights(text)", "parse_fitting(text)", "format_program(program)",
        "format_watcher(watcher)", "format_told(told)", "format_weights(weights)", "format_fitting(fitting)"],
}
METHODS = {
    ("sources", "Source"): ["__init__(self, program, watcher)", "moves(self)", "__eq__(self, other)", "__len__(self)", "__contains__(self, thing)"],
    ("live", "Watch"): [
        "__init__(self, source)", "__call__(self, sign)", "__len__(self)", "signs(self)", "places(self)", "undo(self)", "redo(self)",
        "keep(self, name, weights)", "forget(self, name)", "__contains__(self, name)", "names(self)", "between(self, name)"],
    ("desk", "Desk"): [
        "__init__(self, source)", "now(self)", "of(cls, source, operations)", "do(self, operation)", "all_done(self, operations)", "undo(self)",
        "redo(self)", "notes(self)", "__getitem__(self, name)", "__contains__(self, name)", "__len__(self)", "names(self)", "promises(self)",
        "live(self)"],
    ("console", "Console"): ["execute(self, line)"],
    ("errors", "TooMany"): ["__init__(self, limit)"],
    ("errors", "SyntaxProblem"): ["__init__(self, line, column)"],
    ("errors", "Unkept"): ["__init__(self, name, told)"],
}


def defined_in(body):
    """The functions of a module or a class with their arguments."""
    return [f"{node.name}({ast.unparse(node.args)})" for node in body if isinstance(node, ast.FunctionDef)]


def parsed(file):
    with open(os.path.join(PACKAGE, f"{file}.py"), encoding="utf-8") as text:
        return ast.parse(text.read())


class Interface(unittest.TestCase):
    def test_functions(self):
        for file, functions in FUNCTIONS.items():
            found = defined_in(parsed(file).body)
            for function in functions:
                self.assertIn(function, found, file)

    def test_methods(self):
        for (file, name), methods in METHODS.items():
            bodies = [node.body for node in parsed(file).body if isinstance(node, ast.ClassDef) and node.name == name]
            self.assertEqual(1, len(bodies), name)
            found = defined_in(bodies[0])
            for method in methods:
                self.assertIn(method, found, name)


if __name__ == "__main__":
    unittest.main()
