"""Points 51 to 53: the notation of patterns."""

import functools
import time
import unittest

from cutscribe.errors import CutError, InvalidNotation
from cutscribe.notation import format_pattern, parse_pattern
from cutscribe.patterns import is_pattern
from tests import lexing, reference
from tests.lexing import A, AB, B

EXPRESSION, PARTS = 0, 1


def written(expression):
    """The notation of an expression, by the words of point 51."""
    word = expression[0]
    if word == "set":
        return f"[{expression[1]}]"
    if word == "not":
        return f"(not {written(expression[1])})"
    if word == "again":
        _, part, low, high = expression
        return f"(again {written(part)} {low} {'*' if high is None else high})"
    return "(" + word + "".join(" " + written(part) for part in expression[1:]) + ")"


@functools.lru_cache(maxsize=None)
def choices(alphabet):
    """What may stand in place of an expression and of the parts of a row: sequences of characters and of these two."""
    expressions = [list("[" + chosen + "]") for chosen in reference.ordered_selections(alphabet)]
    expressions += [list("(" + word) + [PARTS, ")"] for word in ("row", "any", "all")]
    expressions += [list("(not ") + [EXPRESSION, ")"]]
    for low in range(5):
        for high in ["*"] + [str(high) for high in range(low, 5)]:
            expressions.append(list("(again ") + [EXPRESSION] + list(f" {low} {high})"))
    return {EXPRESSION: expressions, PARTS: [[], [" ", EXPRESSION, PARTS]]}


@functools.lru_cache(maxsize=None)
def ways_behind(alphabet, text):
    """All ways to go on behind a prefix of a notation, each as the characters and names of what must still come.

    Each has a character first or is at its end; there is none if no notation begins with the text.
    """
    if text == "":
        return opened(alphabet, [(EXPRESSION,)])
    return opened(alphabet, [way[1:] for way in ways_behind(alphabet, text[:-1]) if way and way[0] == text[-1]])


def opened(alphabet, ways):
    found, waiting = set(), list(ways)
    while waiting:
        way = waiting.pop()
        if way and way[0] in (EXPRESSION, PARTS):
            waiting += [tuple(choice) + way[1:] for choice in choices(alphabet)[way[0]]]
        else:
            found.add(way)
    return frozenset(found)


def longest_beginning(alphabet, text):
    """How long the longest prefix is with which a notation begins, and whether the whole text is a notation."""
    end = max(end for end in range(len(text) + 1) if ways_behind(alphabet, text[:end]))
    return end, end == len(text) and () in ways_behind(alphabet, text)


class Checks(unittest.TestCase):

    def refuses(self, alphabet, text, index):
        for _ in range(2):
            with self.assertRaises(InvalidNotation, msg=text) as held:
                parse_pattern(alphabet, text)
            self.assertEqual(held.exception.index, index, text)
            self.assertIs(type(held.exception.index), int)
            self.assertIsInstance(held.exception, CutError)

    def check(self, alphabet, text):
        """The text is parsed, or refused with the index that the document states."""
        index, complete = longest_beginning(alphabet, text)
        if complete:
            try:
                pattern = parse_pattern(alphabet, text)
            except InvalidNotation as error:
                self.assertEqual(error.index, len(text))
                return False
            self.assertTrue(is_pattern(alphabet, pattern))
            self.assertEqual(written(pattern), text)
            return True
        self.refuses(alphabet, text, index)
        return False


class Format(Checks):

    def test_examples_of_the_document(self):
        self.assertEqual(format_pattern(("not", ("row",))), "(not (row))")
        self.assertEqual(format_pattern(("row", AB, ("again", A, 0, None))), "(row [ab] (again [a] 0 *))")

    def test_by_hand(self):
        for pattern, expected in (
                (A, "[a]"), (("set", ""), "[]"), (("set", "az09 -._"), "[az09 -._]"), (("row",), "(row)"),
                (("any",), "(any)"), (("all",), "(all)"), (("row", A), "(row [a])"), (("any", A, B), "(any [a] [b])"),
                (("all", ("any",), ("not", A)), "(all (any) (not [a]))"), (("again", A, 0, 0), "(again [a] 0 0)"),
                (("again", ("row", A, B), 2, None), "(again (row [a] [b]) 2 *)"),
                (("again", B, 4, 4), "(again [b] 4 4)"),
                (("again", ("again", A, 1, 2), 0, 4), "(again (again [a] 1 2) 0 4)")):
            self.assertEqual(format_pattern(pattern), expected)
            self.assertEqual(format_pattern(pattern), expected)

    def test_all_small_patterns(self):
        for pattern in reference.small_patterns():
            text = format_pattern(pattern)
            self.assertEqual(text, written(pattern))
            self.assertEqual(parse_pattern("ab", text), pattern)

    def test_the_largest_patterns(self):
        for pattern in (("any",) + (("row",),) * 9 + (AB,), ("row",) + (("again", A, 1, 1),) * 9,
                        ("again", ("row", A, A), 4, None)):
            self.assertTrue(is_pattern("ab", pattern))
            self.assertEqual(parse_pattern("ab", format_pattern(pattern)), pattern)
        nested = A
        for _ in range(19):
            nested = ("not", nested)
        self.assertTrue(is_pattern("ab", nested))
        self.assertEqual(parse_pattern("ab", format_pattern(nested)), nested)


class Parse(Checks):

    def test_examples_of_the_document(self):
        self.assertEqual(parse_pattern("ab", "(again [b] 0 2)"), ("again", B, 0, 2))
        self.refuses("ab", "[ba]", 2)

    def test_kinds_of_values(self):
        pattern = parse_pattern("ab", "(any (again [a] 1 *) (row [b] (again [ab] 0 3)))")
        self.assertEqual(pattern, ("any", ("again", A, 1, None), ("row", B, ("again", AB, 0, 3))))
        self.assertEqual([type(part) for part in (pattern, pattern[1], pattern[1][1], pattern[1][2])],
                         [tuple, tuple, tuple, int])

    def test_characters_of_alphabets(self):
        for alphabet, text in ((" -._", "[ -._]"), ("._- ", "[.- ]"), ("a ", "(row [ ] [a ])"),
                               ("09", "(again [0] 0 0)")):
            self.assertEqual(written(parse_pattern(alphabet, text)), text)
        self.refuses(" a", "[a ]", 2)
        self.refuses("ab", "[c]", 1)
        self.refuses("ab", "[ab ]", 3)
        self.refuses("ab", "[aa]", 2)
        self.refuses("ba", "[ab]", 2)
        self.refuses("ab", "[A]", 1)

    def test_incomplete_texts(self):
        for text in ("(row [ab] (again [a] 0 *))", "(not (all (any) [b]))", "[]", "(again (row) 2 4)"):
            for end in range(len(text)):
                self.refuses("ab", text[:end], end)
            self.assertEqual(written(parse_pattern("ab", text)), text)

    def test_something_behind_a_notation(self):
        for text in ("[a]", "(row)", "(again [a] 0 *)", "(not [b])"):
            for more in (" ", "[a]", ")", "]", "\n", "x", text):
                self.refuses("ab", text + more, len(text))

    def test_wrong_characters(self):
        for text, index in (
                (" [a]", 0), ("a", 0), ("]", 0), (")", 0), ("\n", 0), ("{", 0), ("([a])", 1), ("( row)", 1),
                ("(Row)", 1),
                ("(rows)", 4), ("(rox)", 3), ("(ro)", 3), ("(anx)", 3), ("(a)", 2), ("(alll)", 4), ("(aga [a] 0 1)", 4),
                ("(not)", 4), ("(not [a] [b])", 8), ("(not  [a])", 5), ("(nor)", 3), ("(set a)", 1), ("(row[a])", 4),
                ("(row  [a])", 5), ("(row [a] )", 9), ("(row [a][b])", 8), ("(row )", 5), ("(row\n[a])", 4),
                ("(row [a]\n)", 8),
                ("(again)", 6), ("(again )", 7), ("(again [a])", 10), ("(again [a] )", 11), ("(again [a] 5 *)", 11),
                ("(again [a] * *)", 11), ("(again [a] 00 1)", 12), ("(again [a] 0)", 12), ("(again [a] 0 )", 13),
                ("(again [a] 2 1)", 13), ("(again [a] 0 5)", 13), ("(again [a] 0 10)", 14), ("(again [a] 0 **)", 14),
                ("(again [a] -1 2)", 11), ("(again [a] 0 2 )", 14), ("(again [a]  0 2)", 11),
                ("(again [a] 1 None)", 13),
                ("(again 0 2)", 7), ("(again [a] 4 3)", 13), ("(again [a] 3 2)", 13), ("[a", 2), ("[a[b]]", 2),
                ("[(row)]", 1)):
            self.refuses("ab", text, index)

    def test_expressions_that_are_no_patterns(self):
        for text in ("(row (not [a]))", "(again (all) 0 *)", "(row (any [a] (not [b])))", "(not (row (all)))",
                     "(row (again [a] 4 *) (again [a] 4 *) [a])", "(row" + " [a]" * 11 + ")",
                     "(any" + " (row)" * 20 + ")", "(again (row" + " [a]" * 6 + ") 0 2)"):
            self.assertEqual(longest_beginning("ab", text), (len(text), True))
            self.refuses("ab", text, len(text))
        self.assertEqual(len(parse_pattern("ab", "(row" + " [a]" * 10 + ")")), 11)

    def test_an_expression_that_is_no_pattern_is_no_error_on_the_way(self):
        self.refuses("ab", "(row (not [a]) [c])", 16)
        self.refuses("ab", "(any" + " [a]" * 30 + " x", 125)

    def test_deep_and_long_notations(self):
        before = time.process_time()
        for word in ("not ", "row ", "any ", "all ", "again "):
            for depth in (21, 100, 400):
                text = ("(" + word) * depth
                self.refuses("ab", text, len(text))
                self.refuses("ab", text + "[c]", len(text) + 1)
                end = " 0 *)" if word == "again " else ")"
                self.refuses("ab", text + "[a]" + end * depth, len(text + "[a]" + end * depth))
                self.refuses("ab", text + "[a]" + end * (depth + 1), len(text + "[a]" + end * depth))
        self.refuses("ab", "(row" + " [ab]" * 79 + ")", 4 + 5 * 79 + 1)
        self.assertLess(time.process_time() - before, 5)

    def test_all_small_changes_of_notations(self):
        for pattern in reference.small_patterns()[::397] + [("all", ("not", A), ("again", B, 1, 3)), ("not", ("any",))]:
            text = written(pattern)
            for at in range(len(text) + 1):
                self.check("ab", text[:at])
                self.check("ab", text[:at] + text[at + 1:])
                for character in "a](0 *n":
                    self.check("ab", text[:at] + character + text[at:])
                    self.check("ab", text[:at] + character + text[at + 1:])

    def test_all_short_texts(self):
        found = [text for text in reference.texts("[]ab(", 5) if self.check("ab", text)]
        self.assertEqual(found, ["[]", "[a]", "[b]", "[ab]"])
        for beginning in ("(again [a]", "(again [] 2", "(row", "(not", "(not [a]"):
            for text in reference.texts(" )02*[", 3):
                self.check("ab", beginning + text)

    def test_the_empty_text(self):
        self.refuses("ab", "", 0)
        self.refuses("a", "", 0)

    def test_patterns_of_the_lexers(self):
        for alphabet, modes in lexing.ALL:
            for _, rules in modes:
                for rule in rules:
                    self.assertEqual(parse_pattern(alphabet, format_pattern(rule[1])), rule[1])


if __name__ == "__main__":
    unittest.main()
