"""Points 20 to 23: the tokens of texts, and what scan tells of them."""

import unittest

from cutscribe.errors import CutError, InvalidText
from cutscribe.lexers import Lexer
from cutscribe.tokens import scan, tokenize
from tests import lexing, reference
from tests.lexing import A, AB, B, LEAVE, built, gap, word


class Checks(unittest.TestCase):

    def tokens(self, given, text, expected):
        """The tokens are the expected ones; a second call returns new, equal lists."""
        lexer = built(given)
        for call in (tokenize, scan):
            first = call(lexer, text)
            again = call(lexer, text)
            self.assertIs(type(first), list)
            self.assertEqual(first, again)
            first.append("more")
            first.reverse()
            self.assertEqual(call(lexer, text), again)
        self.assertEqual(tokenize(lexer, text), expected)
        self.assertEqual(lexer, built(given))

    def begun(self, given, text, expected):
        """What scan tells is as expected, its truth values are bools and its stacks are tuples."""
        found = scan(built(given), text)
        self.assertEqual(found, expected)
        for told in found:
            self.assertEqual([type(part) for part in told], [str, tuple, int, bool])


class Examples(Checks):

    def test_examples_of_the_document(self):
        self.tokens(lexing.DOCUMENT, "aaab", [("x", 0, 1, "word"), ("y", 1, 4, "word")])
        self.begun(lexing.DOCUMENT, "aa", [("main", (), 2, True), ("main", (), 1, True)])

    def test_the_empty_text(self):
        for given in lexing.ALL:
            self.tokens(given, "", [])
            self.begun(given, "", [])


class LongestMatch(Checks):

    def test_the_longest_token_is_taken(self):
        self.tokens(lexing.DOCUMENT, "aab", [("y", 0, 3, "word")])
        self.tokens(lexing.DOCUMENT, "ab", [("x", 0, 1, "word"), ("g", 1, 2, "gap")])
        self.tokens(lexing.UNLIMITED, "aaaaab", [("y", 0, 6, "word")])
        self.tokens(lexing.KEY_FIRST, "abab", [("name", 0, 3, "word"), ("name", 3, 4, "word")])

    def test_a_token_is_cut_back_to_the_last_accepting_state(self):
        self.tokens(lexing.DOCUMENT, "aaa", [("x", at, at + 1, "word") for at in range(3)])
        self.begun(lexing.DOCUMENT, "aaa", [("main", (), 3, False), ("main", (), 2, True), ("main", (), 1, True)])
        self.begun(lexing.UNLIMITED, "aaab", [("main", (), 4, False)])
        self.begun(lexing.UNLIMITED, "aaa", [("main", (), 3, True), ("main", (), 2, True), ("main", (), 1, True)])

    def test_accepting_states_are_left_behind_and_entered_again(self):
        given = lexing.one_mode(word("x", ("any", A, ("row", A, A, A))), gap("g", B))
        self.tokens(given, "aa", [("x", 0, 1, "word"), ("x", 1, 2, "word")])
        self.tokens(given, "aaa", [("x", 0, 3, "word")])
        self.tokens(given, "aaaa", [("x", 0, 3, "word"), ("x", 3, 4, "word")])
        self.tokens(given, "aaaaa", [("x", 0, 3, "word"), ("x", 3, 4, "word"), ("x", 4, 5, "word")])
        self.begun(given, "aaba", [("main", (), 3, False), ("main", (), 2, False), ("main", (), 1, False),
                                   ("main", (), 1, True)])

    def test_a_state_without_live_ones_behind_it_reads_no_further(self):
        given = lexing.one_mode(word("x", A), word("y", ("row", B, B)))
        self.begun(given, "aa", [("main", (), 1, False), ("main", (), 1, False)])
        self.begun(given, "bb", [("main", (), 2, False)])
        self.begun(given, "b", [("main", (), 1, True)])
        self.begun(given, "ba", [("main", (), 2, False), ("main", (), 1, False)])

    def test_the_first_of_several_matching_rules_applies(self):
        self.tokens(lexing.KEY_FIRST, "ab", [("key", 0, 2, "word")])
        self.tokens(lexing.NAME_FIRST, "ab", [("name", 0, 2, "word")])
        self.tokens(lexing.KEY_FIRST, "aba", [("name", 0, 3, "word")])
        self.tokens(lexing.one_mode(gap("p", AB), word("q", A), word("r", B)), "ab", [("p", 0, 1, "gap"),
                                                                                      ("p", 1, 2, "gap")])

    def test_a_longer_match_of_a_later_rule_applies(self):
        self.tokens(lexing.one_mode(gap("p", A), word("q", ("row", A, A))), "aaa", [("q", 0, 2, "word"),
                                                                                   ("p", 2, 3, "gap")])

    def test_rules_of_other_modes_do_not_apply(self):
        self.tokens(lexing.TURNS, "b", [("", 0, 1, "error")])
        self.tokens(lexing.TURNS, "abab", [("x", 0, 2, "word"), ("", 2, 3, "error"), ("z", 3, 4, "word")])


class ErrorTokens(Checks):

    def test_they_consist_of_one_character(self):
        self.tokens(lexing.ONLY_LONG, "abaabab", [("", 0, 1, "error"), ("", 1, 2, "error"), ("", 2, 3, "error"),
                                                  ("x", 3, 7, "word")])
        self.begun(lexing.ONLY_LONG, "abaabab", [("main", (), 4, False), ("main", (), 2, False),
                                                 ("main", (), 2, False), ("main", (), 4, False)])

    def test_they_have_scanned_what_was_read(self):
        self.begun(lexing.ONLY_LONG, "aba", [("main", (), 3, True), ("main", (), 2, False), ("main", (), 1, True)])

    def test_modes_without_rules_have_errors_alone(self):
        for given in (lexing.NO_RULES, lexing.NEVER_MATCHED):
            for many in (1, 2, 5, 400):
                self.tokens(given, "ab" * many, [("", at, at + 1, "error") for at in range(2 * many)])
                self.begun(given, "ba" * many, [("main", (), 1, False)] * (2 * many))

    def test_they_change_nothing(self):
        given = ("ab", [("m", [word("x", A, ("enter", "n"))]), ("n", [word("y", ("row", B, B), LEAVE)])])
        self.tokens(given, "ababb", [("x", 0, 1, "word"), ("", 1, 2, "error"), ("", 2, 3, "error"),
                                     ("y", 3, 5, "word")])
        self.begun(given, "aaa", [("m", (), 1, False), ("n", ("m",), 1, False), ("n", ("m",), 1, False)])


class ActionsOfTokens(Checks):

    def test_stay(self):
        given = ("ab", [("m", [word("x", A), gap("y", B)]), ("n", [])])
        self.begun(given, "abab", [("m", (), 1, False)] * 4)

    def test_go(self):
        self.tokens(lexing.TURNS, "abbabb", [("x", 0, 2, "word"), ("z", 2, 3, "word"), ("x", 3, 5, "word"),
                                             ("z", 5, 6, "word")])
        self.begun(lexing.TURNS, "abbabb", [("one", (), 2, False), ("two", (), 1, False), ("one", (), 2, False),
                                            ("two", (), 1, False)])
        self.begun(lexing.TURNS, "abaaabba", [("one", (), 2, False), ("two", (), 4, False), ("none", (), 1, False),
                                              ("none", (), 1, False)])

    def test_gap_rules_act_too(self):
        self.tokens(lexing.CROSSING, "aab", [("x", 0, 1, "gap"), ("y", 1, 2, "word"), ("", 2, 3, "error")])
        self.begun(lexing.CROSSING, "aab", [("p", (), 3, False), ("q", (), 2, True), ("p", (), 1, False)])
        self.begun(lexing.NESTED, "ba", [("top", (), 1, False), ("in", ("top",), 1, True)])

    def test_enter_and_leave(self):
        self.tokens(lexing.NESTED, "abaca", [("w", 0, 1, "word"), ("open", 1, 2, "gap"), ("t", 2, 3, "word"),
                                             ("close", 3, 4, "gap"), ("w", 4, 5, "word")])
        self.begun(lexing.NESTED, "babccb", [("top", (), 1, False), ("in", ("top",), 2, False),
                                             ("in", ("top", "in"), 3, False), ("in", ("top",), 2, False),
                                             ("top", (), 1, False)])

    def test_the_bottom_of_the_stack_comes_first(self):
        given = ("ab", [("k", [word("x", A, ("enter", "l"))]), ("l", [word("y", A, ("enter", "m"))]),
                        ("m", [word("z", A, ("enter", "m")), gap("out", B, LEAVE)])])
        self.begun(given, "aaaabb", [("k", (), 1, False), ("l", ("k",), 1, False), ("m", ("k", "l"), 1, False),
                                     ("m", ("k", "l", "m"), 1, False), ("m", ("k", "l", "m", "m"), 1, False),
                                     ("m", ("k", "l", "m"), 1, False)])

    def test_leave_with_an_empty_stack(self):
        given = ("ab", [("m", [word("x", A, LEAVE), word("y", B, ("go", "n"))]), ("n", [gap("z", AB, LEAVE)])])
        self.begun(given, "aabab", [("m", (), 1, False)] * 3 + [("n", (), 1, False)] * 2)
        self.tokens(lexing.NESTED, "cca", [("stray", 0, 1, "gap"), ("stray", 1, 2, "gap"), ("w", 2, 3, "word")])

    def test_go_leaves_the_stack_as_it_is(self):
        given = ("ab", [("m", [word("x", A, ("enter", "n"))]), ("n", [word("y", A, ("go", "o"))]),
                        ("o", [word("z", A, LEAVE)])])
        self.begun(given, "aaaa", [("m", (), 1, False), ("n", ("m",), 1, False), ("o", ("m",), 1, False),
                                   ("m", (), 1, False)])

    def test_deep_stacks(self):
        given = ("ab", [("m", [word("x", A, ("enter", "m")), gap("y", B, LEAVE)])])
        for deep in (1, 5, 200):
            expected = [("m", ("m",) * at, 1, False) for at in list(range(deep)) + list(range(deep, 0, -1))]
            self.begun(given, "a" * deep + "b" * deep, expected)
        self.begun(given, "a" * 400, [("m", ("m",) * at, 1, False) for at in range(400)])


class TheWordsOfTheDocument(Checks):

    def test_all_short_texts(self):
        for given in lexing.ALL:
            told = lexing.Told(given, lexing.lookup_length(given))
            lexer = built(given)
            for text in reference.texts(given[0], lexing.text_length(given)):
                expected = told.readings(text)
                self.assertEqual(tokenize(lexer, text), [token for token, _ in expected], text)
                self.assertEqual(scan(lexer, text), [begun for _, begun in expected], text)

    def test_small_patterns(self):
        for pattern in reference.small_patterns()[::7]:
            if "" in reference.language("ab", pattern, 0):
                continue
            given = lexing.one_mode(word("p", pattern), gap("g", B))
            told = lexing.Told(given, 7)
            for text in reference.texts("ab", 3):
                self.assertEqual(scan(built(given), text), [begun for _, begun in told.readings(text)], pattern)

    def test_tokens_depend_on_what_has_been_scanned_alone(self):
        for given in lexing.ALL:
            lexer = built(given)
            for text in reference.texts(given[0], 4):
                self.check_scanned(lexer, text)

    def check_scanned(self, lexer, text):
        """Up to the first token that has reached the end, each one stays if what it has not scanned is replaced."""
        tokens, reach = tokenize(lexer, text), 0
        for number, (_, _, scanned, at_end) in enumerate(scan(lexer, text)):
            if at_end:
                break
            reach = max(reach, tokens[number][1] + scanned)
            for end in reference.texts(lexer.alphabet, 2):
                self.assertEqual(tokenize(lexer, text[:reach] + end)[:number + 1], tokens[:number + 1])


class Texts(Checks):

    def test_texts_of_four_hundred_characters(self):
        self.tokens(lexing.DOCUMENT, "aaab" * 100, [token for at in range(0, 400, 4) for token in (
            ("x", at, at + 1, "word"), ("y", at + 1, at + 4, "word"))])
        self.tokens(lexing.UNLIMITED, "a" * 400, [("x", at, at + 1, "word") for at in range(400)])
        self.begun(lexing.UNLIMITED, "a" * 400, [("main", (), 400 - at, True) for at in range(400)])
        self.tokens(lexing.UNLIMITED, "a" * 399 + "b", [("y", 0, 400, "word")])
        self.begun(lexing.EVERYTHING, "ab" * 200, [("main", (), 400, True)])

    def test_tokens_stand_one_behind_the_other(self):
        for given in lexing.ALL:
            lexer = built(given)
            for text in ("aaabbab" * 57, "abba" * 100, "b" * 400, "aab" * 133):
                self.check_tiling(lexer, given, text)

    def check_tiling(self, lexer, given, text):
        tokens = tokenize(lexer, text)
        self.assertEqual([token[1] for token in tokens] + [len(text)], [0] + [token[2] for token in tokens])
        kinds = {rule[0]: "word" if rule[2] else "gap" for _, rules in given[1] for rule in rules}
        for name, start, end, kind in tokens:
            self.assertLess(start, end)
            self.assertEqual(kind, kinds[name] if name else "error")
            self.assertTrue(name or end == start + 1)
        self.assertEqual(len(scan(lexer, text)), len(tokens))

    def test_characters_that_are_not_in_the_alphabet(self):
        for given in lexing.ALL:
            lexer = built(given)
            for text, position in (("d", 0), ("ad", 1), ("da", 0), ("abdd", 2), ("aaabAb", 4), ("ab ab", 2),
                                   ("ab\n", 2), ("a" * 399 + "z", 399), ("a1" * 200, 1), ("%", 0)):
                for call in (tokenize, scan):
                    with self.assertRaises(InvalidText) as held:
                        call(lexer, text)
                    self.assertEqual(held.exception.position, position)
                    self.assertIsInstance(held.exception, CutError)

    def test_alphabets_of_other_characters(self):
        digits = ("01 -._", [("m", [word("n", ("again", ("set", "01"), 1, None)),
                                    gap("s", ("again", ("set", " "), 1, None)), word("p", ("set", "-.")),])])
        self.tokens(digits, "01 1-_.", [("n", 0, 2, "word"), ("s", 2, 3, "gap"), ("n", 3, 4, "word"),
                                        ("p", 4, 5, "word"), ("", 5, 6, "error"), ("p", 6, 7, "word")])
        self.tokens(("cba", [("m", [word("x", ("set", "ca"))])]), "abc", [("x", 0, 1, "word"), ("", 1, 2, "error"),
                                                                          ("x", 2, 3, "word")])


if __name__ == "__main__":
    unittest.main()
