import unittest

from skidblame.console import Console
from skidblame.errors import (
    InvalidCommand, Mismatch, NoFit, NoMark, NoName, NoProgram, NoWatcher, NoWeights, SyntaxProblem, TooMany, Unkept)

RING = "open : a > 1; b > 2; c > 0 : high 1"
TIGHT = "open : a > 1; b > 2; c > 0 : wide 1, high 1"
# One line for each command, as they can stand behind RING and KEPT.
KEPT = ["weights zero : 1 0 0", "live"]
RIGHT = [
    RING, "place 2 c 0 1", "place 2 c", "watch 1 none 0 1", "watch 1 2 0 3", "mark 0", "weights w : 1 -5 0", "drop zero", "promise zero 0",
    "undo", "program", "watcher", "names", "get zero", "promises", "count", "fit : b b", "many : b b", "reach : b b", "sure : b b",
    "between zero : b b", "spread zero", "high zero 0", "best", "live", "tell 0 b", "at 0", "seen 0 zero"]
# These need something done ahead of them.
LATER = {"unmark 0": ["mark 0"], "release zero": ["watch 1 1 0 0", "promise zero 0"], "redo": ["undo"], "back 0": ["tell 0 b"],
         "again 0": ["tell 0 b", "back 0"], "promise zero 0": ["watch 1 1 0 0"]}
SHOWN = ("program", "watcher", "names", "promises", "count")


def console_of(*lines):
    console = Console()
    for line in lines:
        console.execute(line)
    return console


def shown(console):
    """All that a console tells of a desk and of two live watches."""
    told = []
    for line in [*SHOWN, "get zero", "get w", "at 0", "at 1", "seen 0 zero", "seen 1 zero"]:
        try:
            told.append(console.execute(line))
        except ValueError as error:
            told.append(type(error).__name__)
    return told


class Case(unittest.TestCase):
    def answers(self, console, *pairs):
        for line, answer in pairs:
            found = console.execute(line)
            self.assertIs(str, type(found))
            self.assertEqual(answer, found, line)

    def refuses(self, console, error, *lines):
        for line in lines:
            before = shown(console)
            with self.assertRaises(error, msg=line) as caught:
                console.execute(line)
            self.assertIs(error, type(caught.exception), line)
            self.assertEqual(before, shown(console), line)


class Commands(Case):
    def test_each_command_once(self):
        for line in [*RIGHT, *LATER]:
            console = console_of(RING, *KEPT, *LATER.get(line, []))
            self.assertIs(str, type(console.execute(line)), line)

    def test_operations(self):
        self.answers(
            Console(), (RING, "ok"), ("count", "0"), ("place 2 c 0 1", "ok"), ("program", "a > 1; b > 2; c > 0 1"), ("place 2 d", "ok"),
            ("program", "a > 1; b > 2; d"), ("watcher", "gap 1, wide none, low 0, high 1, marks none"), ("watch 2 3 1 4", "ok"), ("mark 2", "ok"),
            ("mark 0", "ok"), ("watcher", "gap 2, wide 3, low 1, high 4, marks 0 2"), ("unmark 2", "ok"), ("watch 1 none 0 0", "ok"),
            ("watcher", "gap 1, wide none, low 0, high 0, marks 0"), ("count", "7"), ("undo", "ok"), ("undo", "ok"), ("count", "5"),
            ("watcher", "gap 2, wide 3, low 1, high 4, marks 0 2"), ("redo", "ok"), ("watcher", "gap 2, wide 3, low 1, high 4, marks 0"), ("count", "6"))

    def test_weights_and_promises(self):
        console = console_of(TIGHT)
        self.answers(
            console, ("names", "-"), ("promises", "-"), ("weights zero : 1 0 0", "ok"), ("weights b2 : -5  1000000\t0", "ok"), ("names", "b2 zero"),
            ("get b2", "-5 1000000 0"), ("get zero", "1 0 0"), ("promise zero 1", "ok"), ("promises", "zero 1"))
        self.refuses(console, Unkept, "promise b2 1000", "promise zero 0", "weights zero : 5 0 0")
        self.answers(
            console, ("weights b2 : 2 2 2", "ok"), ("promise b2 1000000", "ok"), ("promises", "b2 1000000, zero 1"), ("release zero", "ok"),
            ("drop zero", "ok"), ("names", "b2"), ("promises", "b2 1000000"))

    def test_told_lists(self):
        self.answers(
            console_of(RING, *KEPT), ("fit : b b", "0 1, 0 1"), ("fit : -", "-"), ("fit : x", "none"), ("many : b b", "4"), ("many : -", "1"),
            ("many : a x", "0"), ("reach : b b", "1"), ("reach : -", "-1"), ("reach : x", "none"), ("sure : b b", "0 2, 1 2"),
            ("sure : -", "0 1, 0 2, 1 0, 1 2, 2 0, 2 1"), ("between zero : b b", "0 2"), ("between zero : -", "0 0"), ("between zero : b x", "none"))
        console = console_of("open : s > 1 2; x > 3; x > 3; y : wide 1")
        self.answers(console, ("reach : x", "1 2"), ("fit : x y", "1 1, 3 3"), ("many : x", "2"), ("many : y", "1"))
        # Either of 1 and 2 may be the place, so that neither is surely hit as often as the other one.
        self.answers(console, ("sure : x", "0 3, 1 0, 1 3, 2 0, 2 3, 3 0"))

    def test_no_pairs_are_sure(self):
        console = console_of("open : a > 1; a > 0 : wide none")
        self.answers(console, ("sure : a", "-"), ("sure : -", "0 1, 1 0"))

    def test_spreads(self):
        self.answers(
            console_of(TIGHT, *KEPT), ("spread zero", "1"), ("high zero 0", "0"), ("high zero 1", "30"), ("high zero 1000000", "30"))
        self.answers(
            console_of("open : a > 1 2; b > 0; b > 0 : gap 2, wide 2", "weights w : 0 1 0"), ("spread w", "none"), ("high w 0", "none"))

    def test_best(self):
        self.answers(console_of("open : a > 1; b > 0 : wide 1, low 1, high 1"), ("best", "0 1 : 1 0"))
        self.answers(console_of("open : a > 1; b : gap 1"), ("best", "none : 0 0, 0 1, 1 0, 1 1"))
        self.answers(console_of("open : a > 1; a > 2; a > 0 : wide 1"), ("best", "2 3 : 0, 1, 2"))
        self.answers(console_of("open : a > 0 1; b > 0 : gap 1, low 1, high 30"), ("best", "1 1 : 0 0, 0 1, 1 0, 1 1"))

    def test_live_watches(self):
        console = console_of(TIGHT, "weights zero : 1 0 0")
        self.answers(
            console, ("live", "0"), ("at 0", "-1"), ("seen 0 zero", "0 0"), ("tell 0 b", "1"), ("seen 0 zero", "0 1"), ("live", "1"), ("tell 1 a", "0"),
            ("at 0", "1"), ("at 1", "0"), ("back 0", "ok"), ("at 0", "-1"), ("again 0", "ok"), ("at 0", "1"), ("tell 0 a", "0"), ("at 0", "0"))
        # Later operations do not change a watch.
        self.answers(
            console, ("mark 0", "ok"), ("mark 2", "ok"), ("weights zero : 0 0 0", "ok"), ("weights w : 1 1 1", "ok"), ("live", "2"), ("seen 0 zero", "0 1"),
            ("tell 2 b", "1"), ("seen 2 w", "1 1"))
        self.refuses(console, NoName, "seen 0 w", "seen 1 w")
        console = console_of("open : s > 1 2; x > 3; x > 3; y : wide 1", "live")
        self.answers(console, ("tell 0 x", "1 2"), ("at 0", "1 2"), ("tell 0 y", "3"))

    def test_open_begins_a_new_desk(self):
        console = console_of(TIGHT, "weights zero : 1 0 0", "promise zero 1", "live", "live", "mark 0")
        self.answers(console, (RING, "ok"), ("names", "-"), ("promises", "-"), ("count", "0"))
        self.refuses(console, NoName, "at 0", "at 1", "tell 0 b")
        self.refuses(console, NoMark, "undo", "redo")
        self.answers(console, ("live", "0"), ("live", "1"))

    def test_an_open_that_is_refused(self):
        console = console_of(TIGHT, "weights zero : 1 0 0", "live", "tell 0 b")
        self.refuses(console, SyntaxProblem, "open :  : high 1", "open : a : ", "open : a : high", "open : a > : low 0")
        self.refuses(console, NoProgram, "open : a > 1 : low 0", "open : a > 1 : high")
        self.refuses(console, NoWatcher, "open : a : gap 0", "open : a : marks 1", "open : a; b : marks 0 2")
        self.refuses(console, InvalidCommand, "open : a", "open", "open : a :", "open a : b : gap 1", "open : a:gap 1", "open:a : gap 1")
        self.answers(console, ("at 0", "1"), ("names", "zero"))

    def test_a_number_with_more_digits_than_python_writes_at_once(self):
        program = "; ".join(["a > 0 1 2 3 4 5 6 7"] * 8)
        console = console_of(f"open : {program} : high 1")
        for many in (1, 2, 40, 70, 71, 2495):
            number, text = 64 ** many, console.execute("many : " + " ".join(["a"] * many))
            for at in range(len(text)):
                self.assertIn(text[at], "0123456789")
            total = 0
            for at in range(0, len(text), 1000):
                part = text[at:at + 1000]
                total = total * 10 ** len(part) + int(part)
            self.assertEqual(number, total)
            self.assertNotEqual("0", text[0])


class Lines(Case):
    def test_what_is_no_command(self):
        console = console_of(RING, *KEPT)
        self.refuses(
            console, InvalidCommand, "", " ", "  ", ":", " : ", "x", "Open : a : gap 1", "undo1", "undoes", "names?", "-", "0", "live\t", "\tlive", "undo\n",
            "fit: b", "help", "do", "execute", "keep w : 1 0 0", "forget w", "N", "close", "at", "mark", "un mark 0")

    def test_blanks(self):
        console = console_of(RING, *KEPT)
        for line in [*RIGHT, *LATER]:
            head = line.split(" : ")[0]
            self.refuses(console, InvalidCommand, f" {line}", line.replace(head, f"{head} ", 1), line.replace(head.split(" ")[0], head.split(" ")[0] + " ", 1))
            for at in range(len(head)):
                if head[at] == " " and head[:at].count(" ") == 0:
                    self.refuses(console, InvalidCommand, f"{line[:at]} {line[at:]}", f"{line[:at]}\t{line[at + 1:]}")
        # A word of no character is none, not even where any word may stand.
        self.refuses(
            console, InvalidCommand, "drop ", "get ", "release ", "spread ", "weights  : 1 0 0", "between  : b", "promise  0", "high  0", "tell 0 ",
            "seen 0 ", "place 0 ", "place 0  1", "place  a 1")

    def test_words_too_few_or_too_many(self):
        console = console_of(RING, *KEPT)
        for line in [*RIGHT, *LATER]:
            head, colon, rest = line.partition(" : ")
            words = head.split(" ")
            if words[0] != "place":
                self.refuses(console, InvalidCommand, " ".join([*words, "0"]) + colon + rest)
            if len(words) > 1 and words[0] != "place":
                self.refuses(console, InvalidCommand, " ".join(words[:-1]) + colon + rest)
        self.refuses(console, InvalidCommand, "place", "place 0", "mark", "mark 0 1", "watch 1 1 0", "watch 1 1 0 0 0", "tell 0", "tell b", "undo 0")

    def test_texts_too_few_or_too_many(self):
        console = console_of(RING, *KEPT)
        for line in [*RIGHT, *LATER]:
            head, colon, rest = line.partition(" : ")
            if colon == "":
                self.refuses(console, InvalidCommand, f"{line} : ", f"{line} : a", f"{line} : 0")
            elif head != "open":
                self.refuses(console, InvalidCommand, head, f"{head} :")

    def test_a_further_colon_belongs_to_the_text(self):
        console = console_of(RING, *KEPT)
        for line in ("fit : b : b", "many : b : ", "weights w : 1 : 0 0", "between zero : : b", "sure :  : ", "reach : b :"):
            with self.assertRaises(SyntaxProblem) as caught:
                console.execute(line)
            self.assertEqual((1, line.partition(" : ")[2].index(":") + 1), (caught.exception.line, caught.exception.column))
        with self.assertRaises(SyntaxProblem) as caught:
            console.execute("open : a : gap 1 : high 1")
        self.assertEqual(7, caught.exception.column)

    def test_numbers(self):
        console = console_of(RING, *KEPT)
        for word in ("-1", "00", "01", "0000000", "1000001", "10000000", "9" * 4900, "a", "1a", "+1", "1.0", "none", "0x1", "1_0", "\t0", "0\n", "-0"):
            self.refuses(
                console, InvalidCommand, f"mark {word}", f"place {word} a", f"place 0 a {word}", f"place 0 a 0 {word}", f"watch {word} none 0 0",
                f"watch 1 none {word} 0", f"watch 1 none 0 {word}", f"promise zero {word}", f"high zero {word}", f"tell {word} b", f"at {word}")
            if word != "none":
                self.refuses(console, InvalidCommand, f"watch 1 {word} 0 0")
        self.refuses(console, InvalidCommand, "watch 1 None 0 0", "watch 1 none 0 none", "unmark 01", "back -1", "again x", "seen 00 zero")
        self.refuses(console, NoProgram, "mark 1000000", "mark 3", "unmark 1000000", "place 3 a", "place 0 a 3", "place 0 a 1000000")
        self.refuses(console, NoWatcher, "watch 1000000 none 0 0", "watch 1 1000000 0 0", "watch 1 0 0 0", "watch 31 none 0 0", "watch 2 1 0 0", "watch 1 none 2 1")
        self.refuses(console, NoName, "at 1000000", "at 1", "tell 1 b", "back 1", "again 1", "seen 1 zero")

    def test_any_words_are_names_and_signs(self):
        console = console_of(RING, *KEPT)
        for word in ("A", "1a", "abcdefghi", "a:", "::", "-", "a\tb", "\n", "none?", "0", "~"):
            self.refuses(console, NoName, f"weights {word} : 1 0 0", f"drop {word}", f"promise {word} 0", f"release {word}", f"get {word}", f"spread {word}",
                         f"high {word} 0", f"between {word} : b", f"seen 0 {word}")
            self.refuses(console, NoFit, f"tell 0 {word}")
            self.refuses(console, NoProgram, f"place 0 {word}", f"place 0 {word} 1")
        # A colon is a word where no blank is behind it: otherwise a text stands there.
        self.refuses(console, NoName, "drop :", "get :", "spread :", "seen 0 :")
        self.refuses(console, NoFit, "tell 0 :")
        self.refuses(console, InvalidCommand, "promise : 0", "high : 0", "place 0 : 1", "weights : : 1 0 0")

    def test_no_desk(self):
        for line in [*RIGHT[1:], *LATER, "fit : ?", "weights W : ?", "at 1000000", "place 9 A 9"]:
            console = Console()
            self.assertRaises(NoProgram, console.execute, line)
            self.assertRaises(InvalidCommand, console.execute, f"{line} ".replace(" : ", "  : ", 1))
        for line in ("mark x", "mark", "watch 1 x 0 0", "undo : a", "fit", "x"):
            self.assertRaises(InvalidCommand, Console().execute, line)
        console = Console()
        self.assertRaises(SyntaxProblem, console.execute, "open : a > : high 1")
        self.assertRaises(NoProgram, console.execute, "program")


class Errors(Case):
    def test_texts_come_ahead_of_the_desk(self):
        console = console_of(RING, *KEPT)
        self.refuses(console, SyntaxProblem, "weights W : ", "weights W : 1 a 0", "between x : 1", "fit : ", "sure :  ", "open : ; : ;", "weights zero : 1 0 0\n")
        self.refuses(console, NoName, "weights W : 1", "between x : b")
        self.refuses(console, NoWeights, "weights w : 1", "weights w : 1 0 1000001", "weights zero : 1 0 0 0")
        for line, column in (("open : a > 9 : ?", 5), ("open : a : gap 31", 5), ("weights zero : 1 0 x", 5), ("fit : b  1", 4)):
            with self.assertRaises(SyntaxProblem) as caught:
                console.execute(line)
            self.assertEqual((1, column), (caught.exception.line, caught.exception.column), line)
        self.refuses(console, NoProgram, "open : a > 1 : ?")

    def test_what_the_desk_raises(self):
        console = console_of(TIGHT, "weights zero : 1 0 0", "promise zero 1", "mark 0", "live")
        self.refuses(console, Mismatch, "mark 0", "unmark 1", "drop zero")
        self.refuses(console, NoName, "drop x", "release x", "promise x 0", "get x", "spread x", "high x 0", "seen 0 x", "between x : b")
        self.refuses(console, NoMark, "redo", "back 0", "again 0")
        self.refuses(console, NoFit, "sure : x", "sure : b x", "tell 0 x")
        with self.assertRaises(Unkept) as caught:
            console.execute("weights zero : 9 0 0")
        self.assertEqual("zero", caught.exception.name)

    def test_too_many(self):
        console = console_of("open : a > 1; b > 2; c > 3; d > 4; e > 0 : gap 1")
        self.refuses(console, TooMany, "best")
        for number in range(12):
            console.execute(f"weights n{number} : 1 0 0 0 0")
        self.refuses(console, TooMany, "weights more : 1 0 0 0 0")

    def test_no_watch_comes_ahead_of_what_a_watch_raises(self):
        console = console_of(RING, *KEPT)
        self.refuses(console, NoName, "tell 1 ?", "back 1", "again 1", "seen 1 ?", "at 1")
        self.refuses(console, NoFit, "tell 0 ?")
        self.refuses(console, NoMark, "back 0", "again 0")

    def test_what_is_refused_can_still_be_done_again(self):
        console = console_of(RING, *KEPT, "tell 0 b", "tell 0 b", "mark 0", "undo", "back 0")
        self.refuses(console, InvalidCommand, "mark", "tell 0", "open")
        self.refuses(console, NoProgram, "mark 9", "open : a > 3 : gap 1")
        self.refuses(console, NoFit, "tell 0 x")
        self.answers(console, ("redo", "ok"), ("again 0", "ok"), ("watcher", "gap 1, wide none, low 0, high 1, marks 0"))
        self.refuses(console, NoMark, "redo", "again 0")

    def test_two_consoles(self):
        one, other = console_of(RING, "live"), console_of(TIGHT)
        one.execute("mark 0")
        self.answers(other, ("watcher", "gap 1, wide 1, low 0, high 1, marks none"), ("live", "0"))


if __name__ == "__main__":
    unittest.main()
