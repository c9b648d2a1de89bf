"""Points 11 and 12: minimal automata in standard order."""

import copy
import unittest

from cutscribe.automata import automaton
from cutscribe.errors import CutError, TooLarge
from cutscribe.patterns import is_pattern, matches
from tests import reference

A = ("set", "a")
B = ("set", "b")
AB = ("set", "ab")
NOTHING = ("set", "")
EMPTY = ("row",)
STAR = ("again", A, 0, None)
ANY_TEXT = ("again", AB, 0, None)


def from_the_end(place, alphabet="ab"):
    """The texts whose character at this place, counted from the end and from 1, is an a."""
    anything = ("set", alphabet)
    fours, ones = divmod(place - 1, 4)
    behind = (("again", anything, 4, 4),) * fours + (anything,) * ones
    return ("row", ("again", anything, 0, None), A) + behind


def state_of(alphabet, rows, text):
    state = 0
    for character in text:
        state = rows[state][alphabet.index(character)]
    return state


def told_apart(one, other):
    """Whether some text leads to different marks of two automata over the same alphabet."""
    reached = [(0, 0)]
    for left, right in reached:
        if one[1][left] != other[1][right]:
            return True
        for pair in zip(one[0][left], other[0][right]):
            if pair not in reached:
                reached.append(pair)
    return False


class Checks(unittest.TestCase):

    def check_kinds(self, alphabet, result):
        self.assertIs(type(result), tuple)
        rows, marks = result
        self.assertIs(type(rows), tuple)
        self.assertIs(type(marks), tuple)
        self.assertEqual(len(rows), len(marks))
        self.assertTrue(1 <= len(rows) <= 40)
        for row in rows:
            self.assertIs(type(row), tuple)
            self.assertEqual(len(row), len(alphabet))
            for after in row:
                self.assertIs(type(after), int)
                self.assertTrue(0 <= after < len(rows))
        for mark in marks:
            self.assertIs(type(mark), bool)

    def check_order(self, rows):
        """A breadth-first walk reaches every state, in the order of the numbers."""
        walk = [0]
        for state in walk:
            for after in rows[state]:
                if after not in walk:
                    walk.append(after)
        self.assertEqual(walk, list(range(len(rows))))

    def check_no_two_alike(self, rows, marks):
        """Pairs of states are told apart, beginning with those of different marks, until nothing changes."""
        states = range(len(rows))
        apart = {(one, other) for one in states for other in states if marks[one] != marks[other]}
        while True:
            more = {(one, other) for one in states for other in states if (one, other) not in apart
                    and any((left, right) in apart for left, right in zip(rows[one], rows[other]))}
            if not more:
                break
            apart |= more
        self.assertEqual(len(apart), len(rows) * (len(rows) - 1))

    def check(self, pattern, alphabet="ab"):
        """Return the automaton if its kinds of values, its order and its size are right."""
        self.assertTrue(is_pattern(alphabet, pattern))
        result = automaton(alphabet, pattern)
        self.check_kinds(alphabet, result)
        self.check_order(result[0])
        self.check_no_two_alike(*result)
        return result

    def too_large(self, pattern, alphabet="ab"):
        self.assertTrue(is_pattern(alphabet, pattern))
        with self.assertRaises(TooLarge) as held:
            automaton(alphabet, pattern)
        self.assertEqual(held.exception.what, "pattern")
        self.assertIsInstance(held.exception, CutError)


class ByHand(Checks):

    def test_example_of_the_document(self):
        self.assertEqual(automaton("ab", ("set", "a")), (((1, 2), (2, 2), (2, 2)), (False, True, False)))

    def test_nothing_and_everything(self):
        nothing = (((0, 0),), (False,))
        everything = (((0, 0),), (True,))
        for pattern in (NOTHING, ("any",), ("not", ("all",)), ("row", A, NOTHING), ("all", A, B),
                        ("again", NOTHING, 1, None), ("all", A, ("not", A)), ("not", ANY_TEXT)):
            self.assertEqual(self.check(pattern), nothing)
        for pattern in (("all",), ANY_TEXT, ("not", ("any",)), ("not", NOTHING), ("any", A, ("not", A)),
                        ("again", ("again", AB, 1, None), 0, None)):
            self.assertEqual(self.check(pattern), everything)
        self.assertEqual(automaton("a", ("any",)), (((0,),), (False,)))
        self.assertEqual(automaton("abcdef", ("all",)), (((0,) * 6,), (True,)))

    def test_the_empty_text(self):
        expected = (((1, 1), (1, 1)), (True, False))
        for pattern in (EMPTY, ("again", A, 0, 0), ("again", NOTHING, 0, None), ("row", EMPTY, EMPTY)):
            self.assertEqual(self.check(pattern), expected)
        self.assertEqual(automaton("ab", ("not", EMPTY)), (((1, 1), (1, 1)), (False, True)))

    def test_small_patterns(self):
        self.assertEqual(automaton("ab", B), (((1, 2), (1, 1), (1, 1)), (False, False, True)))
        self.assertEqual(automaton("ab", AB), (((1, 1), (2, 2), (2, 2)), (False, True, False)))
        self.assertEqual(automaton("ab", STAR), (((0, 1), (1, 1)), (True, False)))
        self.assertEqual(automaton("ab", ("again", B, 0, None)), (((1, 0), (1, 1)), (True, False)))
        self.assertEqual(automaton("ab", ("again", A, 1, None)), (((1, 2), (1, 2), (2, 2)), (False, True, False)))
        self.assertEqual(automaton("ab", ("not", A)), (((1, 2), (2, 2), (2, 2)), (True, False, True)))

    def test_rows_and_agains(self):
        self.assertEqual(automaton("ab", ("row", A, A, B)),
                         (((1, 2), (3, 2), (2, 2), (2, 4), (2, 2)), (False, False, False, False, True)))
        self.assertEqual(automaton("ab", ("again", ("row", A, B), 0, None)),
                         (((1, 2), (2, 0), (2, 2)), (True, False, False)))
        self.assertEqual(automaton("ab", ("row", B, STAR)), (((1, 2), (1, 1), (2, 1)), (False, False, True)))
        self.assertEqual(automaton("a", ("again", A, 2, 3)),
                         (((1,), (2,), (3,), (4,), (4,)), (False, False, True, True, False)))
        self.assertEqual(automaton("a", ("again", ("row", A, A, A), 0, None)),
                         (((1,), (2,), (0,)), (True, False, False)))

    def test_texts_by_a_character_counted_from_their_end(self):
        self.assertEqual(automaton("ab", from_the_end(1)), (((1, 0), (1, 0)), (False, True)))
        self.assertEqual(automaton("ab", from_the_end(2)),
                         (((1, 0), (2, 3), (2, 3), (1, 0)), (False, False, True, True)))

    def test_the_numbers_follow_the_order_of_the_alphabet(self):
        self.assertEqual(automaton("ba", A), (((1, 2), (1, 1), (1, 1)), (False, False, True)))
        self.assertEqual(automaton("abc", ("row", ("set", "c"), B)),
                         (((1, 1, 2), (1, 1, 1), (1, 3, 1), (1, 1, 1)), (False, False, False, True)))
        self.assertEqual(automaton("cba", ("row", ("set", "c"), B)),
                         (((1, 2, 2), (2, 3, 2), (2, 2, 2), (2, 2, 2)), (False, False, False, True)))

    def test_alls_and_nots(self):
        twos = ("again", ("row", A, A), 0, None)
        threes = ("again", ("row", A, A, A), 0, None)
        sixes = tuple((number,) for number in (1, 2, 3, 4, 5, 0))
        self.assertEqual(automaton("a", ("all", twos, threes)), (sixes, (True,) + (False,) * 5))
        self.assertEqual(automaton("a", ("any", twos, threes)), (sixes, (True, False, True, True, True, False)))
        self.assertEqual(automaton("a", ("all", twos, ("not", threes))),
                         (sixes, (False, False, True, False, True, False)))


class EverySmallPattern(Checks):

    def test_each_is_minimal_in_standard_order_and_marks_what_the_pattern_matches(self):
        texts = reference.texts("ab", 4)
        for pattern in reference.small_patterns():
            rows, marks = self.check(pattern)
            expected = reference.language("ab", pattern, 4)
            for text in texts:
                self.assertEqual(marks[state_of("ab", rows, text)], text in expected, (pattern, text))

    def test_the_mark_is_what_matches_returns(self):
        texts = reference.texts("abc", 5)
        c = ("set", "c")
        for pattern in (("again", ("row", A, ("again", AB, 0, 2), c), 0, None), ("not", ("row", STAR, c, STAR)),
                        ("any", ("row", c, ("again", ("set", "bc"), 1, 3)), ("not", ("again", ("set", "ac"), 2, 4))),
                        ("all", from_the_end(3, "abc"), ("not", ("row", ("set", "bc"), ("again", AB, 0, None))))):
            rows, marks = self.check(pattern, "abc")
            for text in texts:
                self.assertIs(marks[state_of("abc", rows, text)], matches("abc", pattern, text), (pattern, text))

    def test_equal_texts_give_equal_automata(self):
        by_short_texts = {}
        for pattern in reference.small_patterns()[::2]:
            told = tuple(matches("ab", pattern, text) for text in reference.texts("ab", 3))
            by_short_texts.setdefault(told, []).append(automaton("ab", pattern))
        for found in by_short_texts.values():
            for other in found[1:]:
                self.assertEqual(found[0] == other, not told_apart(found[0], other))


class TwoNotations(Checks):

    def test_the_same_texts_in_two_ways(self):
        c = ("set", "c")
        pairs = (
            (("any", A, B), AB),
            (("any", B, A), ("any", A, B)),
            (("row", A, STAR), ("row", STAR, A)),
            (("again", A, 1, None), ("row", A, STAR)),
            (("again", ("any", A, B), 0, None), ("again", ("row", STAR, ("again", B, 0, None)), 0, None)),
            (("again", ("any", EMPTY, A), 3, 3), ("again", A, 0, 3)),
            (("not", ("any", A, B)), ("all", ("not", A), ("not", B))),
            (("again", ("again", A, 2, 2), 0, 2), ("any", EMPTY, ("again", A, 2, 2), ("again", A, 4, 4))),
            (("row", ("any", A, B), c), ("any", ("row", A, c), ("row", B, c))),
            (("again", ("again", A, 2, 3), 1, None), ("again", A, 2, None)),
            (("all", AB, ("not", A)), B),
            (("not", ("not", ("row", A, B))), ("row", A, B)),
        )
        for one, other in pairs:
            for alphabet in ("abc", "cabd", "xaybzc"):
                self.assertEqual(self.check(one, alphabet), self.check(other, alphabet))


class Size(Checks):

    # The texts of 5 to 8 characters whose fifth one from the end is an a. What was read so far leaves the lengths
    # that still may follow. Up to 3 characters all texts differ in this: 1 + 2 + 4 + 8 states. Behind 4 characters
    # it is a set of lengths from 1 to 4, behind more one of lengths from 0 to 3: 16 + 16 - 8 states, the 8 sets of
    # lengths from 1 to 3 being common to both.
    THIRTY_NINE = ("row", ("again", AB, 0, 3), A, ("again", AB, 4, 4))

    def test_exactly_forty_states_and_one_more(self):
        self.assertEqual(len(self.check(self.THIRTY_NINE)[0]), 39)
        # Each character in front that may be any one is one more state.
        forty = ("row", AB, self.THIRTY_NINE)
        rows, marks = self.check(forty)
        self.assertEqual(len(rows), 40)
        for text in reference.texts("ab", 9):
            self.assertIs(marks[state_of("ab", rows, text)], len(text) in (6, 7, 8, 9) and text[-5] == "a")
        self.too_large(("row", AB, forty))
        self.too_large(("row", AB, AB, self.THIRTY_NINE))

    def test_exactly_forty_states_and_one_more_under_a_not(self):
        forty = ("row", AB, self.THIRTY_NINE)
        self.assertEqual(len(self.check(("not", forty))[0]), 40)
        self.too_large(("not", ("row", AB, forty)))

    def test_powers_of_two(self):
        for place in range(1, 6):
            self.assertEqual(len(self.check(from_the_end(place))[0]), 2 ** place)
        for place in range(6, 9):
            self.too_large(from_the_end(place))
            self.too_large(("not", from_the_end(place)))
            self.too_large(from_the_end(place, "abcdef"), "abcdef")

    def test_small_automata_with_a_large_construction(self):
        nothing = (((0, 0),), (False,))
        everything = (((0, 0),), (True,))
        self.assertEqual(self.check(("any", from_the_end(8), ("all",))), everything)
        self.assertEqual(self.check(("not", ("all", from_the_end(8), ("any",)))), everything)
        self.assertEqual(self.check(("all", from_the_end(7), A)), nothing)
        self.assertEqual(self.check(("all", from_the_end(5), ("again", AB, 0, 4))), nothing)
        self.assertEqual(self.check(("any", ("not", from_the_end(4)), ("again", AB, 4, None))), everything)
        self.assertEqual(self.check(("any", ANY_TEXT, from_the_end(7))), everything)

    def test_large_automata_with_small_parts(self):
        fours = ("again", ("row", AB, AB, AB, AB), 0, None)
        self.assertEqual(len(self.check(from_the_end(5))[0]), 32)
        self.assertEqual(len(self.check(fours)[0]), 4)
        self.too_large(("any", from_the_end(5), fours))
        self.too_large(("any", fours, ("not", from_the_end(5))))
        self.assertEqual(len(self.check(("row", A, ("again", AB, 4, 4), AB))[0]), 8)
        self.assertEqual(len(self.check(ANY_TEXT)[0]), 1)
        self.too_large(("row", ANY_TEXT, A, ("again", AB, 4, 4), AB))


class Calls(Checks):

    def test_arguments_do_not_change_and_a_second_call_is_equal(self):
        pattern = ("any", ("again", ("row", A, B), 1, None), ("not", ("all", STAR)))
        before = copy.deepcopy(pattern)
        first = automaton("ab", pattern)
        self.assertEqual(automaton("ab", pattern), first)
        self.assertEqual(pattern, before)
        large = from_the_end(6)
        before = copy.deepcopy(large)
        self.too_large(large)
        self.too_large(large)
        self.assertEqual(large, before)


if __name__ == "__main__":
    unittest.main()
