"""Points 54 and 55: the texts of lexers."""

import time
import unittest

from cutscribe.errors import CutError, InvalidLexer, InvalidNotation, TooLarge
from cutscribe.lexers import Lexer
from cutscribe.notation import format_lexer, parse_lexer
from tests import lexing
from tests.lexing import A, AB, B, LEAVE, built, gap, one_mode, word

LEXER = built(lexing.DOCUMENT)
TEXT = "alphabet [ab]\nmode main\nword x stay [a]\nword y stay (row [a] [a] [b])\ngap g stay [b]"
ACTIONS = ("a. ", [
    ("m", [word("x", A, ("go", "abcdefgh")), gap("abcdefgh", ("set", ". "), ("enter", "m"))]),
    ("abcdefgh", [gap("m", ("again", A, 2, None), LEAVE), word("y", ("any", ("set", ". ")), ("go", "none"))]),
    ("none", [])])
ACTIONS_TEXT = ("alphabet [a. ]\nmode m\nword x go:abcdefgh [a]\ngap abcdefgh enter:m [. ]\nmode abcdefgh\n"
                "gap m leave (again [a] 2 *)\nword y go:none (any [. ])\nmode none")


class Checks(unittest.TestCase):

    def refuses(self, text, index):
        for _ in range(2):
            with self.assertRaises(InvalidNotation, msg=text) as held:
                parse_lexer(text)
            self.assertEqual(held.exception.index, index, text)
            self.assertIs(type(held.exception.index), int)
            self.assertIsInstance(held.exception, CutError)

    def no_lexer(self, text, reason, mode, rule):
        with self.assertRaises(InvalidLexer, msg=text) as held:
            parse_lexer(text)
        self.assertEqual([held.exception.reason, held.exception.mode, held.exception.rule], [reason, mode, rule])


class Format(Checks):

    def test_example_of_the_document(self):
        self.assertEqual(format_lexer(LEXER).split("\n")[:3], ["alphabet [ab]", "mode main", "word x stay [a]"])
        self.assertEqual(format_lexer(LEXER), TEXT)

    def test_actions_and_kinds(self):
        self.assertEqual(format_lexer(built(ACTIONS)), ACTIONS_TEXT)

    def test_modes_without_rules(self):
        self.assertEqual(format_lexer(built(lexing.NO_RULES)), "alphabet [ab]\nmode main")
        self.assertEqual(format_lexer(Lexer("b", [("m", []), ("n", [])])), "alphabet [b]\nmode m\nmode n")

    def test_there_and_back(self):
        for given in lexing.ALL + [ACTIONS, lexing.FOUR_HUNDRED, lexing.ONE_MORE_GAP]:
            lexer = built(given)
            text = format_lexer(lexer)
            back = parse_lexer(text)
            self.assertEqual(back, lexer)
            self.assertEqual(format_lexer(back), text)
            self.assertEqual([back.rules(name) for name in back.mode_names()],
                             [lexer.rules(name) for name in lexer.mode_names()])
            self.assertEqual([back.alphabet, back.mode_names()], [lexer.alphabet, lexer.mode_names()])


class Parse(Checks):

    def test_by_hand(self):
        self.assertEqual(parse_lexer(TEXT), LEXER)
        self.assertEqual(parse_lexer(ACTIONS_TEXT), built(ACTIONS))
        self.assertEqual(parse_lexer("alphabet [ ]\nmode m"), Lexer(" ", [("m", [])]))
        self.assertIs(type(parse_lexer(TEXT)), Lexer)

    def test_calls_give_lexers_of_their_own(self):
        one, other = parse_lexer(TEXT), parse_lexer(TEXT)
        one.rules("main").append("more")
        self.assertEqual(one, other)
        self.assertEqual(other.rules("main"), LEXER.rules("main"))

    def test_the_first_line(self):
        for line in ("", "alphabet", "alphabet ", "alphabet []", "alphabet [", "alphabet ]", "alphabet [aa]",
                     "alphabet [A]",
                     "alphabet [abcdefg]", "alphabet [ab", "alphabet ab", "alphabet ab]", " alphabet [ab]",
                     "alphabet  [ab]",
                     "alphabet [ab] ", "alphabet [ab]]", "alphabet [[ab]", "Alphabet [ab]", "alphabet[ab]", "mode m",
                     "alphabet [a,b]", "word x stay [a]", "alphabet [ab] [cd]", "alphabet (ab)", "[ab]"):
            self.refuses(line, 0)
            self.refuses(line + "\nmode m", 0)
            self.refuses(line + "\nwrong", 0)
        for alphabet in ("a", "abcdef", "z9 -._", "fedcba", "- ", " "):
            self.assertEqual(parse_lexer(f"alphabet [{alphabet}]\nmode m").alphabet, alphabet)

    def test_the_second_line(self):
        for line in ("", " ", "word x stay [a]", "gap x stay [a]", "alphabet [ab]", "mode", "mode ", "mode M", "wrong"):
            self.refuses("alphabet [ab]\n" + line, 1)
            self.refuses("alphabet [ab]\n" + line + "\nmode m", 1)
            self.refuses("alphabet [ab]\n" + line + "\nwrong", 1)

    def test_mode_lines(self):
        for line in ("mode", "mode ", "mode  m", "mode m ", " mode m", "mode m n", "mode M", "mode m1",
                     "mode abcdefghi", "mode -", "Mode m", "modem", "mode m.", "mode:m", "mode [m]"):
            self.refuses("alphabet [ab]\nmode a\n" + line, 2)
            self.refuses("alphabet [ab]\nmode a\n" + line + "\nmode n", 2)
        self.assertEqual(parse_lexer("alphabet [ab]\nmode a\nmode abcdefgh").mode_names(), ["a", "abcdefgh"])

    def test_rule_lines(self):
        for line in ("word", "gap", "word ", "word x", "word x ", "word x stay", "word x stay ", "word x stay  [a]",
                     "word  x stay [a]", "word x  stay [a]", " word x stay [a]", "word x stay [a] ", "words x stay [a]",
                     "Word x stay [a]", "rule x stay [a]", "word X stay [a]", "word x1 stay [a]",
                     "word abcdefghi stay [a]",
                     "word x Stay [a]", "word x stays [a]", "word x go [a]", "word x go: [a]", "word x go:M [a]",
                     "word x go:abcdefghi [a]", "word x go:m:n [a]", "word x enter [a]", "word x enter: [a]",
                     "word x enter:m1 [a]", "word x leave:m [a]", "word x stay:m [a]", "word x :m [a]",
                     "word x go;m [a]",
                     "word x leave [a][b]", "word x stay [c]", "word x stay [ba]", "word x stay (row",
                     "word x stay row",
                     "word x stay (row [a] )", "word x stay (row (not [a]))", "word x stay (row" + " [a]" * 11 + ")",
                     "word x stay [a] gap", "stay word x [a]", "word [a] stay x", "word x [a] stay", "word x [a]",
                     "x stay [a]",
                     "gap x go:a:b [a]", "gap  stay [a]", "gap x stay", "gap x stay [a b]", "", " ", "-", "()", "[a]"):
            self.refuses("alphabet [ab]\nmode m\n" + line, 2)
            self.refuses("alphabet [ab]\nmode m\n" + line + "\nwrong", 2)
            self.refuses("alphabet [ab]\nmode m\nword y stay [b]\nmode n\n" + line + "\nmode o", 4)

    def test_lines_that_are_valid_but_for_their_place(self):
        self.refuses(TEXT + "\nalphabet [ab]", 5)
        self.refuses(TEXT + "\n" + TEXT, 5)

    def test_empty_lines(self):
        self.refuses("", 0)
        self.refuses("\n", 0)
        self.refuses(TEXT + "\n", 5)
        self.refuses(TEXT + "\n\n", 5)
        self.refuses("\n" + TEXT, 0)
        self.refuses("alphabet [ab]\n", 1)
        self.refuses("alphabet [ab]\nmode m\n", 2)
        self.refuses("alphabet [ab]\n\nmode m", 1)
        self.refuses("alphabet [ab]\nmode m\n\nword x stay [a]", 2)

    def test_a_text_without_a_second_line(self):
        self.no_lexer("alphabet [ab]", "modes", None, None)
        self.no_lexer("alphabet [ -]", "modes", None, None)

    def test_the_first_of_several_invalid_lines(self):
        lines = TEXT.split("\n")
        for first in range(len(lines)):
            for second in range(first, len(lines)):
                changed = [line + "!" if at in (first, second) else line for at, line in enumerate(lines)]
                self.refuses("\n".join(changed), first)

    def test_errors_of_lexers(self):
        for lines, reason, mode, rule in (
                ("mode m\nmode m", "mode", 1, None), ("mode m\nword x stay [a]\nword x stay [b]", "name", 0, 1),
                ("mode m\nword x stay [a]\nmode n\ngap x stay [b]", "name", 1, 0),
                ("mode m\nword x stay (row)", "empty", 0, 0),
                ("mode m\nword x stay [a]\ngap y stay (all)", "empty", 0, 1),
                ("mode m\nword x go:n [a]", "action", 0, 0),
                ("mode m\nmode n\nword x stay [a]\nword y enter:o [a]", "action", 1, 1),
                ("mode a\nmode b\nmode c\nmode d\nmode e", "modes", None, None),
                ("mode m" + "".join(f"\nword {name} stay [a]" for name in "abcdefg"), "rules", 0, None)):
            self.no_lexer("alphabet [ab]\n" + lines, reason, mode, rule)
        with self.assertRaises(InvalidLexer) as held:
            parse_lexer("alphabet [a]\nmode m\nword x go:n [a]")
        self.assertEqual([held.exception.reason, held.exception.mode, held.exception.rule], ["action", 0, 0])

    def test_too_large_lexers(self):
        for rules, what in (([word("x", ("row", ("again", AB, 0, None), A) + (AB,) * 6)], "pattern"),
                            (cycle_rules(), "mode")):
            text = "alphabet [ab]\nmode m" + "".join("\n" + line for line in rules_text(rules))
            with self.assertRaises(TooLarge) as held:
                Lexer("ab", [("m", rules)])
            self.assertEqual(held.exception.what, what)
            with self.assertRaises(TooLarge) as held:
                parse_lexer(text)
            self.assertEqual(held.exception.what, what)

    def test_invalid_lines_come_before_errors_of_lexers(self):
        self.refuses("alphabet [ab]\nmode m\nword x go:n [a]\nword x stay (row)\nwrong", 4)
        self.refuses("alphabet [ab]\nmode m\nmode m\n", 3)
        self.refuses("alphabet [ab]\nmode a\nmode b\nmode c\nmode d\nmode e\nword x stay [c]", 6)

    def test_two_errors_of_lexers(self):
        self.no_lexer("alphabet [ab]\nmode m\nword x go:n [a]\nword x stay [a]", "name", 0, 1)
        self.no_lexer("alphabet [ab]\nmode m\nword x go:n (row)\nmode m", "empty", 0, 0)

    def test_long_texts(self):
        before = time.process_time()
        long = "(any" + " (again [abcdef] 1 1)" * 9 + ")"
        lines = ["alphabet [abcdef]"]
        for mode, names in (("one", "abcdef"), ("two", "ghijkl"), ("three", "mnopqr")):
            lines += ["mode " + mode] + [f"gap {name} enter:one {long}" for name in names]
        text = "\n".join(lines)
        self.assertLess(3800, len(text))
        self.assertLessEqual(len(text), 4000)
        self.assertEqual(format_lexer(parse_lexer(text)), text)
        self.refuses(text + "\n", 22)
        line = "word x stay (any" + " [a]" * 95 + ")"
        self.assertLessEqual(len(line), 400)
        self.refuses("alphabet [ab]\nmode m\n" + line, 2)
        self.refuses("alphabet [ab]\n" + "mode " + "m" * 395, 1)
        self.refuses("alphabet [" + "a" * 389 + "]\nmode m", 0)
        self.refuses("alphabet [ab]\nmode m" + "\nmode m" * 560 + "\nm", 562)
        self.no_lexer("alphabet [ab]\nmode m" + "\nmode m" * 560, "modes", None, None)
        self.assertLess(time.process_time() - before, 5)


def cycle_rules():
    """Rules whose automata have seven, eight and nine states in a circle: together they have too many."""
    return [word(name, ("row", ("again", ("row",) + (A,) * length, 0, None), B))
            for name, length in (("x", 7), ("y", 8), ("z", 9))]


def rules_text(rules):
    """The lines of rules that are rows of sets and of agains; written here, since no lexer can be built of them."""
    lines = []
    for name, pattern, keep, _ in rules:
        parts = "".join(" [" + part[1] + "]" if part[0] == "set" else " " + again(part) for part in pattern[1:])
        lines.append(f"{'word' if keep else 'gap'} {name} stay (row{parts})")
    return lines


def again(part):
    inner = "[" + part[1][1] + "]" if part[1][0] == "set" else "(row" + " [a]" * (len(part[1]) - 1) + ")"
    return f"(again {inner} 0 *)"


if __name__ == "__main__":
    unittest.main()
