"""Point 31: the shortest text that puts words in place of tokens."""

import time
import unittest

from cutscribe.configurations import path
from cutscribe.documents import Document
from cutscribe.errors import CutError, InvalidRange, InvalidWord, NotFlat, TooLarge, TooLong, UnknownRule
from cutscribe.lexers import Lexer
from cutscribe.tokens import scan, tokenize
from tests import lexing, reference, searching
from tests.lexing import A, AB, B, C, built, cycles, gap, word
from tests.test_sources import MODES, SPACED, TURNING_GAPS

LEXER = built(lexing.DOCUMENT)
X, Y = ("x", "a"), ("y", "aab")


def told(lexer, text):
    """The name, the kind, the length and the mode at the beginning of each token."""
    return [(name, kind, end - start, begun[0])
            for (name, start, end, kind), begun in zip(tokenize(lexer, text), scan(lexer, text))]


def fits(lexer, before, first, last, words, piece):
    """Whether the piece may stand in place of the tokens, by the words of point 31."""
    old, tokens = told(lexer, before), tokenize(lexer, before)
    ends = [token[1] for token in tokens] + [len(before)]
    left, right = before[:ends[first]], before[ends[last]:]
    new = told(lexer, left + piece + right)
    middle = new[first:len(new) - (len(old) - last)]
    if new[:first] != old[:first] or new[first + len(middle):] != old[last:] or sum(t[2] for t in middle) != len(piece):
        return False
    if any(kind == "error" for _, kind, _, _ in middle):
        return False
    found, at = [], 0
    for name, kind, length, _ in middle:
        found += [(name, piece[at:at + length])] if kind == "word" else []
        at += length
    return found == list(words)


def positions(lexer, before, first, words):
    """How many positions are reachable behind the text of the tokens before the first one."""
    starts = [token[1] for token in tokenize(lexer, before)] + [len(before)]
    mode, _, _, pending = path(lexer, before[:starts[first]])[-1]
    return len(searching.closure((0, 0, "start", mode, 0, pending), lexer.alphabet,
                                 lambda *step: searching.position_ways(lexer, words, *step)))


class Checks(unittest.TestCase):

    def holds(self, document, lexer, text):
        self.assertEqual([document.text(), document.tokens(), document.lexer], [text, tokenize(lexer, text), lexer])

    def replaces(self, given, before, first, last, words, expected, **most):
        """The call returns what is expected, and the document has changed if this is a text."""
        lexer = built(given)
        document = Document(lexer, before)
        starts = [token[1] for token in document.tokens()] + [len(before)]
        passed = list(words)
        self.assertEqual(document.substitute(first, last, passed, **most), expected)
        self.assertEqual(passed, list(words))
        if expected is None:
            self.holds(document, lexer, before)
        else:
            self.holds(document, lexer, before[:starts[first]] + expected + before[starts[last]:])

    def refuses(self, document, arguments, kind, field=None, value=None, **most):
        """The call raises, twice, and changes nothing."""
        lexer, before = document.lexer, document.text()
        for _ in range(2):
            with self.assertRaises(kind) as held:
                document.substitute(*arguments, **most)
            if field is not None:
                self.assertEqual(getattr(held.exception, field), value)
            self.assertIsInstance(held.exception, CutError)
            self.holds(document, lexer, before)


class Substitutes(Checks):

    def test_example_of_the_document(self):
        self.replaces(lexing.DOCUMENT, "aaab", 1, 2, [X], "a")

    def test_by_hand(self):
        self.replaces(lexing.DOCUMENT, "aaab", 0, 1, [X], "a")
        self.replaces(lexing.DOCUMENT, "aaab", 0, 2, [Y, X], "aaba")
        self.replaces(lexing.DOCUMENT, "aaab", 0, 0, [Y], "aab")
        self.replaces(lexing.DOCUMENT, "aaab", 2, 2, (X, X), "aa")
        self.replaces(lexing.DOCUMENT, "", 0, 0, [Y], "aab")
        self.replaces(lexing.DOCUMENT, "ab", 0, 1, [], "")
        self.replaces(lexing.DOCUMENT, "ab", 0, 2, [], "")

    def test_no_words(self):
        for before in ("", "a", "aaab", "abba", "aabaab"):
            many = len(tokenize(LEXER, before))
            for number in range(many + 1):
                self.replaces(lexing.DOCUMENT, before, number, number, [], "")
        # Without the gap, the words would be one.
        self.replaces(SPACED, "a b", 1, 2, [], " ")
        self.replaces(SPACED, "a b", 0, 1, [], "")
        self.replaces(SPACED, "ab a", 1, 2, [], "")
        self.replaces(SPACED, "a-- b", 1, 3, [], " ")
        self.replaces(lexing.KEY_FIRST, "abaab", 0, 1, [], "")
        self.replaces(lexing.KEY_FIRST, "abaabaab", 1, 2, [], "")
        self.replaces(lexing.one_mode(word("x", ("again", A, 1, None)), word("y", B)), "aba", 1, 2, [], None)

    def test_what_stands_in_front_may_not_become_longer(self):
        self.replaces(lexing.DOCUMENT, "aa", 2, 2, [], "")
        self.replaces(lexing.DOCUMENT, "aab", 0, 1, [X, X], "aa")
        self.replaces(SPACED, "a", 1, 1, [("name", "b")], " b")
        self.replaces(SPACED, "-", 1, 1, [("sum", "-")], " -")
        self.replaces(SPACED, "ab", 1, 1, [("name", "b")], "b")
        self.replaces(lexing.UNLIMITED, "a", 1, 1, [("y", "ab")], None)

    def test_what_stands_behind_may_not_be_taken_in(self):
        self.replaces(SPACED, "b", 0, 0, [("name", "a")], "a ")
        self.replaces(SPACED, "a-b", 0, 1, [("name", "b")], "b")
        self.replaces(SPACED, "a-b", 1, 2, [("name", "b")], " b ")
        self.replaces(SPACED, "-", 0, 0, [("sum", "-")], "- ")
        # A word a in front of b would be a word ab.
        self.replaces(lexing.UNLIMITED, "b", 0, 0, [X], None)
        # The words x and x in front of b would be a word aab.
        self.replaces(lexing.DOCUMENT, "b", 0, 0, [X], "a")
        self.replaces(lexing.DOCUMENT, "ab", 0, 0, [X], "ab")
        self.replaces(lexing.DOCUMENT, "b", 0, 0, [X, X], "aba")

    def test_tokens_far_behind_may_not_be_taken_in(self):
        # Behind the words stands a, not b: only the token behind it is b.
        self.replaces(lexing.UNLIMITED, "aba", 0, 0, [X], None)
        given = lexing.one_mode(word("x", A), word("y", B), word("z", ("row", A, B, B, B)), gap("g", C), alphabet="abc")
        self.replaces(given, "bbb", 0, 0, [X], "ac")
        self.replaces(given, "bb", 0, 0, [X], "a")
        self.replaces(given, "bbcb", 0, 0, [X], "a")

    def test_what_is_behind_begins_in_the_same_mode(self):
        # z leads to the mode q, the gap c back.
        self.replaces(MODES, "aba", 1, 2, [], None)
        self.replaces(MODES, "bac", 0, 1, [("z", "b"), ("y", "a")], "ba")
        self.replaces(MODES, "ba", 0, 1, [("x", "a"), ("z", "b")], "ab")
        self.replaces(MODES, "bca", 0, 2, [("x", "a")], None)
        self.replaces(MODES, "bca", 0, 2, [("z", "b")], "bc")
        self.replaces(MODES, "bca", 2, 3, [("z", "b"), ("y", "a")], "ba")
        self.replaces(TURNING_GAPS, "aba", 0, 1, [("x", "a"), ("x", "a")], "aa")
        self.replaces(TURNING_GAPS, "bb", 0, 1, [], "b")
        self.replaces(TURNING_GAPS, "bb", 1, 2, [("x", "a")], "aa")

    def test_the_mode_behind_the_last_token_is_free(self):
        self.replaces(MODES, "ab", 1, 2, [], "")
        self.replaces(MODES, "a", 1, 1, [("z", "b")], "b")
        self.replaces(MODES, "a", 0, 1, [("z", "b")], "b")

    def test_errors_that_stay(self):
        self.replaces(lexing.ONLY_LONG, "a", 0, 0, [("y", "bb")], "bb")
        self.replaces(lexing.ONLY_LONG, "a", 1, 1, [("y", "bb")], "bb")
        self.replaces(lexing.ONLY_LONG, "ab", 1, 1, [("x", "abab")], "abab")
        self.replaces(lexing.ONLY_LONG, "ab", 1, 2, [("y", "bb")], "bb")
        self.replaces(lexing.ONLY_LONG, "b", 0, 0, [("y", "bb")], "bb")
        self.replaces(lexing.ONLY_LONG, "b", 1, 1, [("y", "bb")], None)
        self.replaces(lexing.NO_RULES, "ab", 1, 1, [], "")
        self.replaces(lexing.NO_RULES, "ab", 0, 2, [], "")

    def test_texts_that_lead_to_the_same_place_are_taken_in_their_order(self):
        self.replaces(lexing.MEETING, "", 0, 0, [("t", "a")], "aaa")

    def test_a_document_is_changed_again_and_again(self):
        document = Document(built(SPACED), "a")
        self.assertEqual(document.substitute(1, 1, [("name", "b")]), " b")
        self.assertEqual(document.substitute(1, 2, [("sum", "-")]), "-")
        self.assertEqual(document.edit(3, 3, "b"), [(0, 0), (1, 1)])
        self.assertEqual(document.substitute(1, 2, []), " ")
        self.assertEqual(document.substitute(0, 2, []), "")
        self.holds(document, built(SPACED), "bb")

    def test_words_of_eight_and_texts_of_twenty_four(self):
        self.replaces(lexing.DOCUMENT, "bab", 1, 2, [Y] * 8, "aab" * 8)
        self.replaces(SPACED, "a", 1, 1, [("name", "a")] * 8, " a" * 8)

    def test_the_same_document_again(self):
        for given in lexing.FLAT:
            lexer = built(given)
            for before in reference.texts("ab", 4)[::5]:
                tokens = tokenize(lexer, before)
                if all(token[3] != "error" for token in tokens):
                    one = Document(lexer, before)
                    found = one.substitute(0, len(one), searching.words_of(before, tokens))
                    self.assertLessEqual(len(found), len(before))

    def check_all(self, given, before, lists):
        lexer = built(given)
        many = len(tokenize(lexer, before))
        for first in range(many + 1):
            for last in range(first, many + 1):
                for words in lists:
                    most = 4
                    document = Document(lexer, before)
                    found = document.substitute(first, last, words)
                    expected = searching.first_text(
                        lexer, most, lambda piece: fits(lexer, before, first, last, words, piece))
                    if found is None or len(found) <= most:
                        self.assertEqual(found, expected, (before, first, last, words))
                    else:
                        self.assertIsNone(expected)
                        self.assertTrue(fits(lexer, before, first, last, words, found))

    def test_all_small_texts(self):
        for given, lists in ((lexing.DOCUMENT, [[], [X], [Y], [X, X]]), (lexing.UNLIMITED, [[], [X], [("y", "ab")]]),
                             (lexing.KEY_FIRST, [[], [("key", "ab")], [("name", "aba")]]),
                             (lexing.TURNS, [[], [("x", "ab")], [("z", "b")], [("y", "a")]]),
                             (lexing.CROSSING, [[], [("y", "a")], [("m", "abb")]]),
                             (TURNING_GAPS, [[], [X], [("y", "b")]]),
                             (lexing.ONLY_LONG, [[], [("y", "bb")]]), (lexing.MEETING, [[], [("t", "a")]])):
            for before in reference.texts("ab", 4)[1::2]:
                self.check_all(given, before, lists)

    def test_small_texts_of_more_characters(self):
        for before in ("a", "a b", "ab-b", "a--b", "- -", "aab ", "b-"):
            self.check_all(SPACED, before, [[], [("name", "a")], [("sum", "-")]])
        for before in ("abca", "bac", "cab", "aabaac"):
            self.check_all(MODES, before, [[], [("x", "a")], [("y", "a")], [("z", "b")]])


class Errors(Checks):

    def test_not_flat_is_first(self):
        for given in lexing.NOT_FLAT:
            document = Document(built(given), "ab")
            for arguments in ((0, 0, []), (9, -1, []), (0, 0, [("no", "")])):
                self.refuses(document, arguments, NotFlat)
                self.refuses(document, arguments, NotFlat, most=1)

    def test_ranges(self):
        for before, many in (("", 0), ("aab", 1), ("aaab", 2), ("abab", 4)):
            document = Document(LEXER, before)
            for first in (-1, many + 1, 10 ** 30):
                for last in (-1, 0, many, many + 1):
                    self.refuses(document, (first, last, []), InvalidRange, "position", first)
            for first in range(many + 1):
                for last in (first - 1, many + 1, -10 ** 30):
                    self.refuses(document, (first, last, [X]), InvalidRange, "position", last)

    def test_words(self):
        document = Document(LEXER, "aaab")
        self.refuses(document, (0, 1, [("z", "a")]), UnknownRule, "name", "z")
        self.refuses(document, (0, 1, [("g", "b")]), UnknownRule, "name", "g")
        self.refuses(document, (0, 1, [("", "")]), UnknownRule, "name", "")
        self.refuses(document, (0, 1, [X, ("y", "")]), InvalidWord, "index", 1)
        self.refuses(document, (0, 1, [("x", "ac"), ("z", "a")]), InvalidWord, "index", 0)

    def test_most(self):
        for given, before, first, last, words in (
                (lexing.DOCUMENT, "aaab", 1, 2, [X]), (lexing.DOCUMENT, "aaab", 0, 1, []),
                (lexing.DOCUMENT, "", 0, 0, [Y]),
                (SPACED, "a b", 1, 2, []), (SPACED, "a", 1, 1, [("name", "ab"), ("sum", "-")]),
                (MODES, "aba", 1, 2, []),
                (lexing.NO_RULES, "ab", 1, 1, []), (lexing.TURNS, "abab", 1, 1, [("y", "aa")])):
            many = positions(built(given), before, first, words)
            expected = Document(built(given), before).substitute(first, last, words)
            for most in {many, many + 1, 2000}:
                self.replaces(given, before, first, last, words, expected, most=most)
            for most in {many - 1, many // 2, 1}:
                if 0 < most < many:
                    self.refuses(Document(built(given), before), (first, last, words), TooLarge, "what", "search",
                                 most=most)

    def test_the_first_position_counts(self):
        # The positions that are reached from behind an a are not those that are reached from the beginning.
        self.assertEqual(positions(LEXER, "aab", 1, []), 3)
        self.assertEqual(positions(LEXER, "a", 1, []), 5)
        self.replaces(lexing.DOCUMENT, "a", 1, 1, [], "", most=5)
        self.refuses(Document(LEXER, "a"), (1, 1, []), TooLarge, "what", "search", most=4)
        self.replaces(lexing.DOCUMENT, "a", 0, 0, [], "", most=3)

    def test_most_left_out_is_four_hundred(self):
        self.replaces(lexing.FOUR_HUNDRED_GAPS, "ab", 0, 1, [], "")
        self.refuses(Document(built(lexing.ONE_MORE_GAP), "ab"), (0, 1, []), TooLarge, "what", "search")
        self.replaces(lexing.ONE_MORE_GAP, "ab", 0, 1, [], "", most=401)

    def test_too_long_texts(self):
        document = Document(LEXER, "ab" * 199 + "b")
        self.assertEqual(len(document.text()), 399)
        self.refuses(document, (0, 1, [Y]), TooLong, "length", 401)
        self.refuses(document, (399, 399, [X, X]), TooLong, "length", 401)
        self.refuses(document, (399, 399, [X] * 8), TooLong, "length", 407)
        self.replaces(lexing.DOCUMENT, "ab" * 199 + "b", 399, 399, [X], "a")
        self.replaces(lexing.DOCUMENT, "ab" * 199 + "b", 0, 2, [Y], "aab")
        self.replaces(SPACED, "a " * 199 + "a", 399, 399, [("sum", "-")], "-")
        self.refuses(Document(built(SPACED), "a " * 199 + "a"), (399, 399, [("name", "a")]), TooLong, "length", 401)
        # Without a text that fits, the document would not become too long.
        self.replaces(lexing.DOCUMENT, "ab" * 200, 0, 0, [("x", "aa")], None)

    def test_two_errors_at_once(self):
        document = Document(LEXER, "ab" * 200)
        self.refuses(document, (401, 402, [("z", "a")]), InvalidRange, "position", 401, most=1)
        self.refuses(document, (5, 4, [("x", "")]), InvalidRange, "position", 4, most=1)
        self.refuses(document, (0, 0, [("z", "a")]), UnknownRule, "name", "z", most=1)
        self.refuses(document, (0, 0, [("x", "")]), InvalidWord, "index", 0, most=1)
        self.refuses(document, (400, 400, [X]), TooLarge, "what", "search", most=1)
        self.refuses(document, (400, 400, [X]), TooLong, "length", 401)

    def test_long_searches(self):
        before = time.process_time()
        given = cycles(5, 6)
        gaps = ("ab", [("main", [given[1][0][1][0]] + [rule[:2] + (False,) + rule[3:] for rule in given[1][0][1][1:]])])
        document = Document(Lexer(*gaps), "a" * 200 + "b" + "a" * 199)
        many = len(document)
        for _ in range(10):
            self.assertEqual(document.substitute(many - 1, many, [("x", "a")], most=2000), "a")
        self.assertLess(time.process_time() - before, 10)


if __name__ == "__main__":
    unittest.main()
