import unittest

from skidblame.errors import NoProgram, NoWatcher, SyntaxProblem
from skidblame.programs import is_program, is_watcher, made
from skidblame.texts import (
    format_fitting, format_program, format_told, format_watcher, format_weights, parse_fitting, parse_program, parse_told,
    parse_watcher, parse_weights)
from tests.drawn import Draw
from tests.things import unchanged

EVERY = (parse_program, parse_watcher, parse_told, parse_weights, parse_fitting)
RIGHT = {
    parse_program: ["a > 1; b", "a", "a > 0 1 2; b2 > 0; end", "a > 0"], parse_watcher: ["gap 1, wide none, low 0, high 1, marks 0 3", "low 0", "marks none"],
    parse_told: ["a b a", "-", "a", "abcdefgh z9"], parse_weights: ["1 -5 0", "0", "-1 9999999999"], parse_fitting: ["0 1, 2 2", "-", "7 7"]}


class Texts(unittest.TestCase):
    def refuses(self, parse, text, column):
        with self.assertRaises(SyntaxProblem, msg=(parse.__name__, text)) as caught:
            parse(text)
        self.assertEqual((1, column), (caught.exception.line, caught.exception.column), (parse.__name__, text))


class Tokens(Texts):
    def test_empty_texts(self):
        for parse in EVERY:
            for text in ("", " ", "\t", "   ", " \t \t"):
                self.refuses(parse, text, len(text) + 1)

    def test_blanks_anywhere(self):
        for parse in EVERY:
            for text in RIGHT[parse]:
                found = parse(text)
                for other in (f" {text}", f"{text} ", f"\t{text}\t", text.replace(" ", "\t "), text.replace(",", " ,\t").replace(";", "  ; "),
                              text.replace(", ", ",").replace("; ", ";").replace(" > ", ">")):
                    self.assertEqual(found, parse(other), (parse.__name__, other))

    def test_characters_that_are_no_token(self):
        for parse in EVERY:
            for text in RIGHT[parse]:
                for sign in "\n_.:<=AZ+*/\"'()[]{}|~!?&%$#@^`\\":
                    self.refuses(parse, f"{text}{sign}", len(text) + 1)
                    self.refuses(parse, f"{text} {sign} {text}", len(text) + 2)
                    self.refuses(parse, f"{sign}{text}", 1)
                    self.refuses(parse, f" \t{sign}", 3)

    def test_all_tokens_are_read_first(self):
        # Ahead of the unknown character stands a token with which no such text goes on.
        for parse in EVERY:
            for text, column in ((", , ?", 5), (";;\n", 3), ("> a Z", 5), ("a 1 ; , 00", 9), ("1 a abcdefghi", 5), ("; -0", 3)):
                self.refuses(parse, text, column)
            for text in RIGHT[parse]:
                self.refuses(parse, f"; {text} ; ; A ?", len(text) + 8)

    def test_names_of_eight_and_nine_letters(self):
        self.assertEqual(["abcdefgh", "a2345678"], parse_told("abcdefgh a2345678"))
        for text in ("abcdefghi", "a23456789", "a" * 5000):
            for parse in EVERY:
                self.refuses(parse, text, 1)
            self.refuses(parse_told, f"a {text}", 3)

    def test_integers(self):
        self.assertEqual((9999999999, -9999999999, 0, 10, -1), parse_weights("9999999999 -9999999999 0 10 -1"))
        for text in ("10000000000", "-10000000000", "-0", "00", "01", "-01", "-00", "0" * 11, "1" * 5000, "0a", "1a", "-1a", "1b2", "2row", "-0x"):
            for parse in EVERY:
                self.refuses(parse, text, 1)
                self.refuses(parse, f"1 {text}", 3)
                self.refuses(parse, f"a  {text}", 4)

    def test_a_minus_ahead_of_a_digit_and_of_a_letter(self):
        self.assertEqual((1, -5), parse_weights("1-5"))
        self.assertEqual((-5, -6), parse_weights("-5-6"))
        self.refuses(parse_weights, "1 - 5", 3)
        self.refuses(parse_weights, "--5", 1)
        self.refuses(parse_weights, "1-", 2)
        self.refuses(parse_weights, "-a", 1)
        self.refuses(parse_told, "-a", 2)
        self.refuses(parse_told, "a-", 2)
        self.refuses(parse_told, "a-b", 2)
        self.refuses(parse_told, "a-5", 2)
        self.refuses(parse_told, "-5", 1)
        self.refuses(parse_told, "--", 2)
        self.refuses(parse_fitting, "-1", 1)
        self.refuses(parse_fitting, "- 1", 3)
        # The - belongs to the row only if a digit is directly behind it.
        self.refuses(parse_told, "a -0b", 3)
        self.refuses(parse_told, "- b0", 3)

    def test_rows_of_signs(self):
        self.assertEqual((("a", (0,)), ("b", ())), parse_program("a>0;b"))
        self.assertEqual([(0, 1), (2, 3)], parse_fitting("0 1,2 3"))
        self.refuses(parse_program, "a>>0", 3)
        self.refuses(parse_program, "a;;b", 3)
        self.refuses(parse_fitting, "0 1,,2 3", 5)

    def test_the_line_is_always_1(self):
        for parse in EVERY:
            for text in RIGHT[parse]:
                self.refuses(parse, f"{text}\n{text}", len(text) + 1)
                self.refuses(parse, f"\n{text}", 1)


class Programs(Texts):
    def test_read(self):
        self.assertEqual((("a", (1,)), ("b", (0, 1)), ("end", ())), parse_program("a > 1; b > 0 1;end"))
        self.assertEqual((("a", ()),), parse_program("a"))
        eight = "; ".join(["x > 0 1 2 3 4 5 6 7"] * 8)
        self.assertEqual((("x", tuple(range(8))),) * 8, parse_program(eight))

    def test_nine_places(self):
        eight = ";".join(["x"] * 8)
        self.refuses(parse_program, f"{eight};", 16)
        self.refuses(parse_program, f"{eight};x", 16)
        self.refuses(parse_program, f"{eight} x", 17)

    def test_cut_off(self):
        for text in ("a >", "a;", "a > 0;", "a > 0; b >"):
            self.refuses(parse_program, text, len(text) + 1)
            self.refuses(parse_program, f"{text} \t", len(text) + 3)

    def test_first_wrong_token(self):
        for text, column in (
                ("> 1", 1), ("1", 1), ("-", 1), ("; a", 1), (", a", 1), ("a b", 3), ("a 1", 3), ("a, b", 2), ("a > b", 5), ("a > ;", 5),
                ("a > 8", 5), ("a > -1", 5), ("a > 1 1", 7), ("a > 2 1", 7), ("a > 0 7 8", 9), ("a > 0, 1", 6), ("a > 0 > 1", 7), ("a > 0 b", 7),
                ("a > 0; 1", 8), ("a > 0;; b", 7), ("a > 10", 5), ("a - b", 3), ("a > -", 5), ("a > 9999999999", 5), ("a > 0 0", 7)):
            self.refuses(parse_program, text, column)

    def test_nexts_that_are_no_places(self):
        for text in ("a > 1", "a > 0 1", "a > 7; b", "a; b > 2", "a > 0; b > 0 1 2"):
            self.assertRaises(NoProgram, parse_program, text)
        # A text that is none is told first.
        self.refuses(parse_program, "a > 7;", 7)
        self.refuses(parse_program, "a > 7 ; 1", 9)


class Watchers(Texts):
    def test_read(self):
        self.assertEqual((1, None, 0, 2, (0, 3)), parse_watcher("high 2,marks 0 3"))
        self.assertEqual(made(gap=30), parse_watcher("gap 30"))
        self.assertEqual(made(wide=4), parse_watcher("wide 4"))
        self.assertEqual(made(), parse_watcher("wide none"))
        self.assertEqual(made(), parse_watcher("marks none"))
        self.assertEqual(made(), parse_watcher("low 0"))
        self.assertEqual(made(high=30), parse_watcher("high 30"))
        self.assertEqual(made(marks=tuple(range(8))), parse_watcher("marks 0 1 2 3 4 5 6 7"))
        for text in ("marks 1 2, high 5, low 4, wide 3, gap 2", "gap 2, marks 1 2, wide 3, low 4, high 5", "wide 3,high 5,gap 2,low 4,marks 1 2"):
            self.assertEqual((2, 3, 4, 5, (1, 2)), parse_watcher(text))

    def test_cut_off(self):
        for text in ("gap", "wide", "low", "high", "marks", "gap 1,", "gap 1, low", "marks 1,", "gap 1, wide none, low 0, high 1,"):
            self.refuses(parse_watcher, text, len(text) + 1)

    def test_settings_doubled(self):
        for text, column in (
                ("gap 1, gap 1", 8), ("wide none, wide 2", 12), ("marks 1, marks 2", 10), ("low 0, high 1, low 0", 16),
                ("gap 1, wide none, low 0, high 1, marks none,", 44), ("gap 1, wide none, low 0, high 1, marks none, gap 1", 44),
                ("marks 0, gap 1, wide none, low 0, high 1 , x", 42)):
            self.refuses(parse_watcher, text, column)

    def test_first_wrong_token(self):
        for text, column in (
                ("gap none", 5), ("low none", 5), ("high none", 6), ("wide nine", 6), ("marks all", 7), ("gap 31", 5), ("wide 31", 6), ("low 31", 5),
                ("high 31", 6), ("marks 8", 7), ("gap -1", 5), ("marks 1 1", 9), ("marks 2 1", 9), ("marks none 1", 12), ("marks 1 none", 9),
                ("wide none 1", 11), ("gap 1 2", 7), ("gap 1 low 0", 7), ("gap, 1", 4), ("1 gap", 1), ("gaps 1", 1), ("none", 1), (", gap 1", 1),
                ("gap 1,, low 0", 7), ("gap 1; low 0", 6), ("wide > 1", 6), ("marks 7 8", 9), ("marks 0,1", 9), ("marks -", 7), ("gap 1, 5", 8)):
            self.refuses(parse_watcher, text, column)

    def test_what_is_no_watcher(self):
        for text in ("gap 0", "wide 0", "gap 3, wide 2", "low 1", "high 2, low 3", "low 30, high 29"):
            self.assertRaises(NoWatcher, parse_watcher, text)
        self.refuses(parse_watcher, "gap 0,", 7)
        self.refuses(parse_watcher, "low 1 1", 7)


class Others(Texts):
    def test_told(self):
        self.assertEqual(["a", "b", "a"], parse_told("a b a"))
        self.assertEqual([], parse_told("-"))
        self.assertEqual(["a"] * 2500, parse_told(" ".join(["a"] * 2500)))
        for text, column in (("- a", 3), ("a -", 3), ("a, b", 2), ("a 1", 3), ("1", 1), ("a; b", 2), ("a > b", 3), ("-,", 2)):
            self.refuses(parse_told, text, column)

    def test_weights(self):
        self.assertEqual((1, -5, 0), parse_weights("1 -5 0"))
        self.assertEqual((1,) * 2500, parse_weights(" ".join(["1"] * 2500)))
        for text, column in (("-", 1), ("1 -", 3), ("a", 1), ("1 a", 3), ("1, 2", 2), ("1;", 2), ("> 1", 1)):
            self.refuses(parse_weights, text, column)

    def test_fittings(self):
        self.assertEqual([(0, 1), (2, 2)], parse_fitting("0 1, 2 2"))
        self.assertEqual([], parse_fitting("-"))
        for text, column in (
                ("0", 2), ("0 1,", 5), ("0 1, 2", 7), ("8 0", 1), ("0 8", 3), ("0 1 2", 5), ("0, 1", 2), ("a 0", 1), ("0 a", 3), ("0 1; 2 2", 4), ("-,", 2),
                ("0 1, -", 6), ("-1 0", 1), ("0 -1", 3), ("0 1, 2 2,", 10), ("- 0 1", 3), ("0 10", 3)):
            self.refuses(parse_fitting, text, column)


class Formats(Texts):
    def test_canonical_texts(self):
        self.assertEqual("a > 1; b", format_program((("a", (1,)), ("b", ()))))
        self.assertEqual("a > 0 1 2; b; c > 2", format_program((("a", (0, 1, 2)), ("b", ()), ("c", (2,)))))
        self.assertEqual("gap 1, wide none, low 0, high 2, marks 0 3", format_watcher((1, None, 0, 2, (0, 3))))
        self.assertEqual("gap 2, wide 30, low 1, high 2, marks none", format_watcher((2, 30, 1, 2, ())))
        self.assertEqual(["-", "a", "a b a"], [format_told(told) for told in ([], ["a"], ["a", "b", "a"])])
        self.assertEqual(["0", "1 -5 0"], [format_weights(weights) for weights in ((0,), (1, -5, 0))])
        self.assertEqual(["-", "0 1", "0 1, 2 2"], [format_fitting(pairs) for pairs in ([], [(0, 1)], [(0, 1), (2, 2)])])

    def test_parsed_they_give_back_what_they_tell(self):
        draw = Draw(81)
        for _ in range(300):
            program = draw.program(8)
            watcher = draw.watcher(8, 30, 30)
            self.assertTrue(is_program(program) and is_watcher(watcher))
            told = [("a", "b2", "abcdefgh")[draw.below(3)] for _ in range(draw.below(6))]
            weights = tuple([draw.below(2 * 10 ** 6 + 1) - 10 ** 6 for _ in range(1 + draw.below(8))])
            pairs = [(draw.below(8), draw.below(8)) for _ in range(draw.below(5))]
            for form, parse, thing in (
                    (format_program, parse_program, program), (format_watcher, parse_watcher, watcher), (format_told, parse_told, told),
                    (format_weights, parse_weights, weights), (format_fitting, parse_fitting, pairs)):
                text = unchanged(self, form, thing)
                self.assertEqual(thing, parse(text))
                self.canonical(text)

    def canonical(self, text):
        """One space between two tokens, none ahead of a comma or a semicolon, none at the ends."""
        self.assertEqual(text.strip(), text)
        for wrong in ("  ", "\t", "\n", " ,", " ;"):
            self.assertNotIn(wrong, text)
        for sign in ",;":
            self.assertEqual(text.count(sign), text.count(f"{sign} "))
        self.assertEqual(text.count(">"), text.count(" > "))

    def test_canonical_texts_are_their_own_ones(self):
        for parse, form in ((parse_program, format_program), (parse_watcher, format_watcher), (parse_told, format_told),
                            (parse_weights, format_weights), (parse_fitting, format_fitting)):
            for text in RIGHT[parse][:1]:
                self.assertEqual(text, form(parse(text)))

    def test_lists_are_new(self):
        for parse, text in ((parse_told, "a b"), (parse_told, "-"), (parse_fitting, "0 1"), (parse_fitting, "-")):
            parse(text).append(None)
            self.assertNotIn(None, parse(text))


if __name__ == "__main__":
    unittest.main()
