"""Points 8 and 10: which texts a pattern matches."""

import copy
import unittest

from cutscribe.errors import CutError, InvalidText
from cutscribe.patterns import matches
from tests import reference

A = ("set", "a")
B = ("set", "b")
AB = ("set", "ab")
NOTHING = ("set", "")
EMPTY = ("row",)
STAR = ("again", A, 0, None)


class Checks(unittest.TestCase):

    def language(self, pattern, expected, most=5, alphabet="ab"):
        """The matched texts of at most so many characters are the expected ones."""
        found = [text for text in reference.texts(alphabet, most) if matches(alphabet, pattern, text)]
        self.assertEqual(found, expected, pattern)

    def everything(self, pattern, most=5, alphabet="ab"):
        self.language(pattern, reference.texts(alphabet, most), most, alphabet)


class Kinds(Checks):

    def test_example_of_the_document(self):
        self.assertIs(matches("ab", ("row", ("set", "a"), ("set", "ab")), "ab"), True)

    def test_answers_are_bools(self):
        for pattern in (A, STAR, ("not", A), ("all",), ("any",), ("any", A, B), ("all", A, AB), EMPTY):
            for text in ("", "a", "b", "ab"):
                self.assertIn(matches("ab", pattern, text), (True, False))
                self.assertIs(type(matches("ab", pattern, text)), bool)

    def test_sets(self):
        self.language(A, ["a"])
        self.language(AB, ["a", "b"])
        self.language(NOTHING, [])
        self.language(("set", "ac"), ["a", "c"], 3, "abc")

    def test_rows(self):
        self.language(("row", A, AB), ["aa", "ab"])
        self.language(("row", A, B, A), ["aba"])
        self.language(("row", STAR, B), ["b", "ab", "aab", "aaab", "aaaab"])
        self.language(("row", STAR, STAR, ("again", B, 0, 1)),
                      ["", "a", "b", "aa", "ab", "aaa", "aab", "aaaa", "aaab", "aaaaa", "aaaab"])

    def test_anys_and_alls(self):
        self.language(("any", A, ("row", B, B)), ["a", "bb"])
        self.language(("all", AB, ("any", B, ("row", A, A))), ["b"])
        self.language(("all", ("again", ("row", A, A), 0, None), ("again", ("row", A, A, A), 0, None)),
                      ["", "aaaaaa"], 7, "a")

    def test_nots(self):
        self.language(("not", A), [text for text in reference.texts("ab", 5) if text != "a"])
        self.language(("not", ("not", A)), ["a"])
        self.language(("not", ("row", ("again", AB, 0, None), B, ("again", AB, 0, None))),
                      ["", "a", "aa", "aaa", "aaaa", "aaaaa"])

    def test_a_row_an_any_and_an_all_without_parts(self):
        self.language(EMPTY, [""])
        self.language(("any",), [])
        self.everything(("all",))
        self.language(("row", EMPTY, A, EMPTY), ["a"])
        self.language(("row", A, ("any",)), [])
        self.language(("any", ("any",), EMPTY), [""])
        self.language(("all", ("all",), A), ["a"])
        self.everything(("not", ("any",)))
        self.language(("not", ("all",)), [])
        self.language(("not", EMPTY), reference.texts("ab", 5)[1:])

    def test_sets_without_characters(self):
        self.language(("row", A, NOTHING), [])
        self.language(("row", NOTHING, STAR), [])
        self.language(("any", NOTHING, A), ["a"])
        self.everything(("not", NOTHING))
        self.language(("again", NOTHING, 0, None), [""])
        self.language(("again", NOTHING, 0, 3), [""])
        self.language(("again", NOTHING, 1, None), [])
        self.language(("again", ("row", A, NOTHING), 0, 2), [""])


class Agains(Checks):

    def test_low_and_high(self):
        for low in range(5):
            self.language(("again", A, low, None), ["a" * many for many in range(low, 8)], 7, "a")
            for high in range(low, 5):
                self.language(("again", A, low, high), ["a" * many for many in range(low, high + 1)], 7, "a")

    def test_zero_matches_give_the_empty_text(self):
        self.language(("again", A, 0, 0), [""])
        self.language(("again", ("row", A, B), 0, 0), [""])
        self.language(("row", B, ("again", A, 0, 0), B), ["bb"])

    def test_parts_that_match_the_empty_text(self):
        for part in (EMPTY, ("any", EMPTY), ("again", NOTHING, 0, None), ("row", EMPTY, EMPTY)):
            for low, high in ((0, 0), (0, None), (1, None), (4, None), (2, 2), (1, 4)):
                self.language(("again", part, low, high), [""])

    def test_parts_that_match_the_empty_text_besides(self):
        maybe = ("any", EMPTY, A)
        for low in range(5):
            self.language(("again", maybe, low, None), ["a" * many for many in range(8)], 7, "a")
            for high in range(low, 5):
                self.language(("again", maybe, low, high), ["a" * many for many in range(high + 1)], 7, "a")
        self.language(("again", ("again", ("row", A, B), 0, 1), 2, 2), ["", "ab", "abab"])

    def test_agains_within_agains(self):
        self.language(("again", ("again", A, 2, 2), 0, None), ["", "aa", "aaaa", "aaaaaa"], 7, "a")
        self.language(("again", ("again", A, 2, 3), 1, 2), ["aa", "aaa", "aaaa", "aaaaa", "aaaaaa"], 7, "a")
        self.language(("again", ("again", A, 3, 4), 0, None), ["", "aaa", "aaaa", "aaaaaa", "aaaaaaa"], 7, "a")
        self.language(("again", ("again", A, 0, None), 2, 3), ["a" * many for many in range(8)], 7, "a")
        self.language(("again", ("row", ("again", A, 1, None), B), 1, None), ["ab", "aab", "aaab", "abab", "aaaab",
                      "aabab", "abaab"])
        self.language(("again", ("again", ("again", A, 2, 2), 1, 2), 2, 2), ["aaaa", "aaaaaa", "aaaaaaaa"], 9, "a")

    def test_each_copy_stands_for_itself(self):
        self.language(("again", AB, 2, 2), ["aa", "ab", "ba", "bb"])
        self.language(("again", ("any", A, ("row", B, B)), 2, 2), ["aa", "abb", "bba", "bbbb"])
        self.language(("row", ("again", AB, 0, None), A, AB), ["aa", "ab", "aaa", "aab", "baa", "bab"], 3)


class Around(Checks):

    def test_nots_and_alls_around_agains(self):
        self.language(("not", ("again", AB, 1, None)), [""])
        self.language(("all", ("again", AB, 2, 2), ("not", ("row", A, AB))), ["ba", "bb"])
        self.language(("all", ("again", A, 0, 4), ("not", ("again", ("again", A, 2, 2), 0, 2))), ["a", "aaa"])
        self.language(("any", ("not", ("again", AB, 0, None)), ("all", B, ("not", A))), ["b"])
        self.language(("not", ("any", ("again", ("row", A, AB), 0, None), ("not", ("again", AB, 0, 2)))),
                      ["a", "b", "ba", "bb"])

    def test_the_empty_text(self):
        for pattern in (EMPTY, STAR, ("all",), ("not", A), ("not", NOTHING), ("row", STAR, STAR), ("any", A, EMPTY)):
            self.assertIs(matches("ab", pattern, ""), True, pattern)
        for pattern in (A, NOTHING, ("any",), ("not", EMPTY), ("again", A, 1, None), ("row", STAR, A),
                        ("all", STAR, A), ("not", ("all",))):
            self.assertIs(matches("ab", pattern, ""), False, pattern)

    def test_all_kinds_of_characters(self):
        alphabet = "-z. 0_"
        for character in alphabet:
            self.language(("set", character), [character], 2, alphabet)
        self.everything(("again", ("set", alphabet), 0, None), 2, alphabet)

    def test_every_small_pattern_as_the_document_says(self):
        texts = reference.texts("ab", 4)
        for pattern in reference.small_patterns():
            expected = reference.language("ab", pattern, 4)
            found = {text for text in texts if matches("ab", pattern, text)}
            self.assertEqual(found, expected, pattern)


class LongTexts(Checks):

    def test_some_hundred_characters(self):
        for length in (100, 399, 400, 700):
            text = "a" * length
            self.assertIs(matches("ab", STAR, text), True)
            self.assertIs(matches("ab", STAR, text + "b"), False)
            self.assertIs(matches("ab", ("row", STAR, B), text + "b"), True)
            self.assertIs(matches("ab", ("not", STAR), text), False)
            self.assertIs(matches("ab", ("again", ("again", A, 2, 2), 0, None), text), length % 2 == 0)
            self.assertIs(matches("ab", ("again", ("row", A, A, A), 0, None), text), length % 3 == 0)

    def test_patterns_that_could_be_read_in_many_ways(self):
        nested = ("again", ("again", ("again", ("any", A, ("row", A, A), EMPTY), 0, None), 1, None), 0, None)
        self.assertIs(matches("ab", nested, "a" * 400), True)
        self.assertIs(matches("ab", nested, "a" * 399 + "b"), False)
        maybe = ("again", A, 0, 1)
        self.assertIs(matches("ab", ("row",) + (maybe,) * 5 + (STAR,) * 4, "a" * 400), True)

    def test_the_fifth_character_from_the_end(self):
        pattern = ("row", ("again", AB, 0, None), A, ("again", AB, 4, 4))
        self.assertIs(matches("ab", pattern, "b" * 395 + "abbbb"), True)
        self.assertIs(matches("ab", pattern, "a" * 395 + "baaaa"), False)


class ForeignCharacters(Checks):

    def position_of_error(self, alphabet, pattern, text):
        with self.assertRaises(InvalidText) as held:
            matches(alphabet, pattern, text)
        self.assertIsInstance(held.exception, CutError)
        return held.exception.position

    def test_the_position_is_that_of_the_first_one(self):
        for pattern in (A, NOTHING, EMPTY, ("any",), ("all",), ("not", A), STAR, ("row", B, NOTHING)):
            self.assertEqual(self.position_of_error("ab", pattern, "c"), 0)
            self.assertEqual(self.position_of_error("ab", pattern, "abca"), 2)
            self.assertEqual(self.position_of_error("ab", pattern, "abcdc"), 2)
            self.assertEqual(self.position_of_error("ab", pattern, "ba "), 2)
            self.assertEqual(self.position_of_error("ab", pattern, "A"), 0)
            self.assertEqual(self.position_of_error("ab", pattern, "a" * 399 + "-"), 399)

    def test_other_characters_of_alphabets_are_foreign_too(self):
        for character in "abc0-._\n~":
            self.assertEqual(self.position_of_error(" d", ("all",), " d" + character + "d"), 2)


class Calls(Checks):

    def test_arguments_do_not_change_and_a_second_call_is_equal(self):
        pattern = ("any", ("again", ("row", A, B), 1, None), ("not", ("all", STAR)))
        before = copy.deepcopy(pattern)
        first = [matches("ab", pattern, text) for text in reference.texts("ab", 4)]
        second = [matches("ab", pattern, text) for text in reference.texts("ab", 4)]
        self.assertEqual(first, second)
        self.assertEqual(pattern, before)


if __name__ == "__main__":
    unittest.main()
