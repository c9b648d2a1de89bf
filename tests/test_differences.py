"""Points 41 to 43: pair configurations, the shortest difference of two lexers, and certificates that there is none."""

import itertools
import time
import unittest

from cutscribe.differences import never_differ, pair_configurations, pair_successors, shortest_difference
from cutscribe.errors import AlphabetMismatch, CutError, NotFlat
from cutscribe.lexers import Lexer
from cutscribe.tokens import tokenize
from tests import lexing, searching
from tests.lexing import A, AAB, AB, B, built, cycles, gap, word
from tests.searching import FIRST_PAIR

LEXER = built(lexing.DOCUMENT)
WITHOUT = built(lexing.WITHOUT_Y)
AS_WORD = lexing.one_mode(word("x", A), word("y", AAB), word("g", B))
OTHER_NAME = lexing.one_mode(word("x", A), word("z", AAB), gap("g", B))
OTHER_ORDER = lexing.one_mode(gap("g", B), word("y", AAB), word("x", A))
WRITTEN_OTHERWISE = lexing.one_mode(word("x", ("row", A)), word("y", ("row", ("again", A, 2, 2), B)),
                                    gap("g", ("any", B)))
IN_TWO_MODES = ("ab", [
    ("p", [word("x", A), word("y", AAB, ("go", "q")), gap("g", B)]),
    ("q", [word("xx", A), word("yy", AAB), gap("gg", B)])])
# The same tokens, but the automaton of the second one reads on behind each of them.
SHORT_SIGHTED = lexing.one_mode(word("all", AB))
FAR_SIGHTED = lexing.one_mode(word("all", AB), word("never", ("all", ("again", AB, 2, 2), ("set", "a"))))
WITH_T = lexing.MEETING
WITHOUT_T = ("ab", lexing.MEETING[1][:2] + [("o", [])])
PAIRS = [(one, other) for one in lexing.FLAT for other in lexing.FLAT] + [
    (lexing.DOCUMENT, other) for other in (AS_WORD, OTHER_NAME, OTHER_ORDER, WRITTEN_OTHERWISE, IN_TWO_MODES)] + [
    (SHORT_SIGHTED, FAR_SIGHTED), (FAR_SIGHTED, SHORT_SIGHTED), (WITH_T, WITHOUT_T), (WITHOUT_T, WITH_T)]


def first_difference(one, other, most):
    return searching.first_text(one, most, lambda text: tokenize(one, text) != tokenize(other, text))


def made_by_hand(one, other):
    """Pair configurations with up to one quadruple, reachable or not."""
    sizes = [[len(lexer.automaton(name)[0]) for name in lexer.mode_names()] for lexer in (one, other)]
    live = [[lexing.live_states(lexer.automaton(name)) for name in lexer.mode_names()] for lexer in (one, other)]
    states = [(i, j, s, t) for i, j in itertools.product(range(len(sizes[0])), range(len(sizes[1])))
              for s, t in itertools.product(range(sizes[0][i]), range(sizes[1][j]))]
    fours = [four for four in states if four[2] in live[0][four[0]] or four[3] in live[1][four[1]]]
    pending = [()] + [(four,) for four in fours]
    places = [(i, j, "inside", s, t) for i, j, s, t in states]
    places += [(i, j, "start", 0, 0) for i in range(len(sizes[0])) for j in range(len(sizes[1]))]
    return [place + (chosen,) for place in places[::3] for chosen in pending[::2]]


class PairSuccessors(searching.SearchChecks):

    def steps(self, one, other, pair, character, expected):
        first = pair_successors(one, other, pair, character)
        self.assertEqual([type(first), type(first[0]), type(first[1])], [tuple, bool, list])
        self.assertEqual(first, expected)
        first[1].append("more")
        self.assertEqual(pair_successors(one, other, pair, character), expected)

    def test_example_of_the_document(self):
        self.steps(LEXER, LEXER, FIRST_PAIR, "b", (False, [FIRST_PAIR]))

    def test_by_hand(self):
        inside, start = (0, 0, "inside", 1, 1, ()), (0, 0, "start", 0, 0, ((0, 0, 1, 1),))
        self.steps(LEXER, LEXER, FIRST_PAIR, "a", (False, [inside, start]))
        self.steps(LEXER, LEXER, inside, "a", (False, [(0, 0, "inside", 3, 3, ())]))
        self.steps(LEXER, LEXER, inside, "b", (False, []))
        self.steps(LEXER, LEXER, (0, 0, "inside", 3, 3, ()), "b", (False, [FIRST_PAIR]))
        self.steps(LEXER, LEXER, (0, 0, "start", 0, 0, ((0, 0, 3, 3),)), "b", (False, []))

    def test_one_of_two_live_states_is_enough(self):
        # In the lexer without y, state 1 is behind a, 2 behind b and 3 behind all others.
        self.steps(LEXER, WITHOUT, FIRST_PAIR, "a", (False, [
            (0, 0, "inside", 1, 1, ()), (0, 0, "start", 0, 0, ((0, 0, 1, 1),))]))
        self.steps(WITHOUT, LEXER, (0, 0, "inside", 1, 1, ()), "a", (False, [(0, 0, "inside", 3, 3, ())]))
        self.steps(LEXER, WITHOUT, (0, 0, "start", 0, 0, ((0, 0, 1, 1),)), "b", (False, [FIRST_PAIR]))
        self.steps(LEXER, WITHOUT, (0, 0, "start", 0, 0, ((0, 0, 3, 3),)), "a", (False, [
            (0, 0, "inside", 1, 1, ()), (0, 0, "start", 0, 0, ((0, 0, 1, 1),))]))

    def test_differences(self):
        self.steps(LEXER, WITHOUT, (0, 0, "inside", 3, 3, ()), "b", (True, []))
        self.steps(WITHOUT, LEXER, (0, 0, "inside", 3, 3, ()), "b", (True, []))
        self.steps(LEXER, built(AS_WORD), FIRST_PAIR, "b", (True, []))
        self.steps(LEXER, built(OTHER_NAME), (0, 0, "inside", 3, 3, ()), "b", (True, []))
        self.steps(LEXER, built(lexing.NO_RULES), FIRST_PAIR, "b", (True, []))
        self.steps(built(lexing.NO_RULES), LEXER, FIRST_PAIR, "b", (True, []))
        self.steps(built(lexing.NO_RULES), built(lexing.NEVER_MATCHED), FIRST_PAIR, "b", (False, [FIRST_PAIR]))

    def test_one_quadruple_that_accepts_forbids_a_difference(self):
        self.steps(LEXER, WITHOUT, (0, 0, "inside", 3, 3, ((0, 0, 3, 3),)), "b", (False, []))
        self.steps(LEXER, WITHOUT, (0, 0, "start", 0, 0, ((0, 0, 0, 3),)), "a", (False, []))
        self.steps(WITHOUT, LEXER, (0, 0, "start", 0, 0, ((0, 0, 3, 3),)), "b", (False, []))
        self.steps(LEXER, WITHOUT, (0, 0, "inside", 3, 3, ((0, 0, 1, 1),)), "b", (True, []))

    def test_modes(self):
        turns, crossing = built(lexing.TURNS), built(lexing.CROSSING)
        self.steps(turns, turns, (0, 0, "inside", 1, 1, ()), "b", (False, [(1, 1, "start", 0, 0, ())]))
        self.steps(turns, turns, (1, 2, "start", 0, 0, ()), "b", (True, []))
        self.steps(crossing, crossing, FIRST_PAIR, "a", (False, [
            (0, 0, "inside", 1, 1, ()), (1, 1, "start", 0, 0, ((0, 0, 1, 1),))]))
        two = built(IN_TWO_MODES)
        self.steps(LEXER, two, (0, 0, "inside", 3, 3, ()), "b", (False, [(0, 1, "start", 0, 0, ())]))

    def test_made_by_hand(self):
        for one, other in [(lexing.DOCUMENT, lexing.UNLIMITED), (lexing.TURNS, lexing.CROSSING),
                           (lexing.KEY_FIRST, lexing.NAME_FIRST), (lexing.ONLY_LONG, lexing.DOCUMENT),
                           (lexing.WITH_NOT, lexing.MEETING), (lexing.DOCUMENT, AS_WORD), (lexing.TURNS, lexing.TURNS)]:
            one, other = built(one), built(other)
            for pair in made_by_hand(one, other):
                for character in "ab":
                    self.assertEqual(pair_successors(one, other, pair, character),
                                     searching.pair_ways(one, other, pair, character), pair)


class PairConfigurations(searching.SearchChecks):

    def test_all_that_are_reachable(self):
        for one, other in PAIRS:
            one, other = built(one), built(other)
            expected = searching.closure(
                FIRST_PAIR, "ab", lambda pair, character: searching.pair_ways(one, other, pair, character)[1])
            self.new_list(lambda: pair_configurations(one, other), expected)
            self.bounded(lambda most: pair_configurations(one, other, most=most), len(expected), expected)
            shortest = shortest_difference(one, other)
            self.bounded(lambda most: shortest_difference(one, other, most=most), len(expected), shortest)

    def test_by_hand(self):
        self.assertEqual(pair_configurations(LEXER, LEXER), [
            (0, 0, "inside", 1, 1, ()), (0, 0, "inside", 1, 1, ((0, 0, 3, 3),)), (0, 0, "inside", 3, 3, ()), FIRST_PAIR,
            (0, 0, "start", 0, 0, ((0, 0, 1, 1),)), (0, 0, "start", 0, 0, ((0, 0, 1, 1), (0, 0, 3, 3)))])
        self.assertEqual(pair_configurations(LEXER, built(lexing.NO_RULES)), [FIRST_PAIR])
        self.assertEqual(pair_configurations(built(lexing.NO_RULES), built(lexing.NEVER_MATCHED), most=1), [FIRST_PAIR])

    def test_most_left_out_is_four_hundred(self):
        for given, many in ((lexing.FOUR_HUNDRED, 400), (lexing.ONE_MORE, 401)):
            lexer = built(given)
            self.assertEqual(len(pair_configurations(lexer, lexer, most=401)), many)
            self.assertIsNone(shortest_difference(lexer, lexer, most=401))
        lexer = built(lexing.FOUR_HUNDRED)
        self.assertEqual(len(pair_configurations(lexer, lexer)), 400)
        self.assertIsNone(shortest_difference(lexer, lexer))
        lexer = built(lexing.ONE_MORE)
        self.too_large(lambda: pair_configurations(lexer, lexer))
        self.too_large(lambda: shortest_difference(lexer, lexer))

    def test_a_difference_that_would_be_found_earlier(self):
        many = len(pair_configurations(LEXER, built(OTHER_NAME)))
        self.assertEqual(shortest_difference(LEXER, built(OTHER_NAME), most=many), "aab")
        self.too_large(lambda: shortest_difference(LEXER, built(OTHER_NAME), most=many - 1))
        one = built(lexing.one_mode(gap("g", B), *cycles(4, 5)[1][0][1]))
        other = built(lexing.one_mode(word("g", B), *cycles(4, 5)[1][0][1]))
        self.too_large(lambda: shortest_difference(one, other))
        self.assertEqual(shortest_difference(one, other, most=2000), "b")

    def test_long_searches(self):
        before = time.process_time()
        one, other = built(cycles(5, 6)), built(cycles(6, 5))
        self.assertEqual(len(pair_configurations(one, one, most=2000)), 993)
        self.assertEqual(shortest_difference(one, other, most=2000), "aaaaab")
        large = built(cycles(7, 8))
        self.too_large(lambda: shortest_difference(large, large, most=2000))
        self.assertLess(time.process_time() - before, 5)


class ShortestDifference(unittest.TestCase):

    def test_example_of_the_document(self):
        self.assertEqual(shortest_difference(LEXER, WITHOUT), "aab")
        self.assertEqual(shortest_difference(WITHOUT, LEXER), "aab")

    def test_by_hand(self):
        self.assertEqual(shortest_difference(LEXER, built(AS_WORD)), "b")
        self.assertEqual(shortest_difference(LEXER, built(OTHER_NAME)), "aab")
        self.assertEqual(shortest_difference(LEXER, built(IN_TWO_MODES)), "aaba")
        self.assertEqual(shortest_difference(LEXER, built(lexing.NO_RULES)), "a")
        self.assertEqual(shortest_difference(LEXER, built(lexing.UNLIMITED)), "ab")
        self.assertEqual(shortest_difference(built(lexing.KEY_FIRST), built(lexing.NAME_FIRST)), "ab")

    def test_texts_that_lead_to_the_same_place_are_taken_in_their_order(self):
        self.assertEqual(shortest_difference(built(WITH_T), built(WITHOUT_T)), "aaa")

    def test_the_order_of_the_alphabet_decides(self):
        for alphabet in ("ab", "ba"):
            one = Lexer(alphabet, [("m", [word("x", ("set", alphabet))])])
            other = Lexer(alphabet, [("m", [word("y", ("set", alphabet))])])
            self.assertEqual(shortest_difference(one, other), alphabet[0])

    def test_lexers_that_tokenize_equally(self):
        for one, other in ((lexing.DOCUMENT, lexing.DOCUMENT), (lexing.DOCUMENT, OTHER_ORDER),
                           (lexing.DOCUMENT, WRITTEN_OTHERWISE), (SHORT_SIGHTED, FAR_SIGHTED),
                           (lexing.NO_RULES, lexing.NEVER_MATCHED)):
            self.assertIsNone(shortest_difference(built(one), built(other)))
            self.assertIsNone(shortest_difference(built(other), built(one)))

    def test_names_of_modes_do_not_count(self):
        one = Lexer("ab", [("m", [word("x", A, ("go", "n"))]), ("n", [word("y", A, ("go", "m"))])])
        other = Lexer("ab", [("p", [word("x", A, ("go", "r"))]), ("q", []), ("r", [word("y", A, ("go", "p"))])])
        self.assertIsNone(shortest_difference(one, other))

    def test_all_texts(self):
        for one, other in PAIRS:
            one, other = built(one), built(other)
            self.assertEqual(shortest_difference(one, other), first_difference(one, other, 6))


class NeverDiffer(searching.SearchChecks):

    def test_example_of_the_document(self):
        self.assertIs(never_differ(LEXER, LEXER, pair_configurations(LEXER, LEXER)), True)

    def test_exactly_the_lexers_that_tokenize_equally(self):
        for one, other in PAIRS:
            one, other = built(one), built(other)
            value = pair_configurations(one, other)
            if shortest_difference(one, other) is None:
                self.holds(lambda given: never_differ(one, other, given), value)
                self.needs_all(lambda given: never_differ(one, other, given), value)
            else:
                self.assertIs(never_differ(one, other, value), False)

    def test_further_elements(self):
        value = pair_configurations(LEXER, LEXER)
        for further in ((0, 0, "inside", 4, 4, ()), (0, 0, "inside", 2, 4, ()), (0, 0, "start", 0, 0, ((0, 0, 0, 0),)),
                        (0, 0, "start", 0, 0, ((0, 0, 0, 4),)), (0, 0, "inside", 1, 3, ((0, 0, 4, 0),))):
            self.assertIs(never_differ(LEXER, LEXER, value + [further]), True, further)
        # The lexers differ at the first of these by b; the last one leads to what is not there.
        self.refuses(lambda given: never_differ(LEXER, LEXER, given), value, [
            (0, 0, "inside", 1, 3, ()), (0, 0, "inside", 0, 1, ()), (0, 0, "start", 0, 0, ((0, 0, 1, 3),))])

    def test_wrong_elements(self):
        value = pair_configurations(LEXER, LEXER)
        start = (0, 0, "start", 0, 0)
        self.refuses(lambda given: never_differ(LEXER, LEXER, given), value, [
            (0, 0, "start", 4, 4, ()), (0, 0, "start", 4, 0, ()), (0, 0, "start", 0, 4, ()), (1, 0, "start", 0, 0, ()),
            (0, 1, "start", 0, 0, ()),
            (-1, 0, "start", 0, 0, ()), (0, -1, "start", 0, 0, ()), (0, 0, "inside", 6, 4, ()),
            (0, 0, "inside", 4, 6, ()), (0, 0, "inside", -2, 4, ()), (0, 0, "inside", 4, -2, ()),
            (False, 0, "start", 0, 0, ()), (0, False, "start", 0, 0, ()), (0, 0, "start", False, 0, ()),
            (0, 0, "start", 0, False, ()), (0, 0, "word", 0, 0, ()), (0, 0, "", 0, 0, ()), (0, 0, None, 0, 0, ()),
            (0, 0, 0, 0, 0, ()), (0, 0, ["start"], 0, 0, ()), ("0", 0, "start", 0, 0, ()), (0, None, "start", 0, 0, ()),
            (0, 0, "start", "0", 0, ()), (0, 0, "start", 0, (0,), ()), list(start) + [()], start, start + ((), ()),
            start + ([],), start + (None,), start + ("",), start + (0,), start + ((0, 0, 1, 1),),
            start + (([0, 0, 1, 1],),), start + ([(0, 0, 1, 1)],), start + (((0, 0, 1, 1), (0, 0, 1, 1)),),
            start + (((0, 0, 3, 3), (0, 0, 1, 1)),), start + (((0, 0, 4, 4),),), start + (((0, 0, 2, 5),),),
            start + (((0, 0, 6, 1),),), start + (((0, 0, 1, 6),),), start + (((0, 1, 1, 1),),),
            start + (((1, 0, 1, 1),),), start + (((-1, 0, 1, 1),),), start + (((0, 0, -3, 3),),),
            start + (((0, 0, True, 1),),), start + (((0, 0, 1, True),),), start + (((False, 0, 1, 1),),),
            start + (((0, False, 1, 1),),), start + (((0, 0, 1),),), start + (((0, 0, 1, 1, 1),),),
            start + ((None,),), start + ((((0, 0, 1, 1),),),), start + (((0, 0, "1", 1),),), (0, "start", 0, ())])

    def test_bools_in_place_of_integers(self):
        lexer = built(lexing.NO_RULES)
        self.assertIs(never_differ(lexer, lexer, [FIRST_PAIR]), True)
        for broken in ((False, 0, "start", 0, 0, ()), (0, False, "start", 0, 0, ()), (0, 0, "start", False, 0, ()),
                       (0, 0, "start", 0, False, ())):
            self.assertIs(never_differ(lexer, lexer, [broken]), False)

    def test_large_values(self):
        before = time.process_time()
        value = pair_configurations(LEXER, LEXER)
        self.assertIs(never_differ(LEXER, LEXER, value * 1000), True)
        self.assertIs(never_differ(LEXER, LEXER, [FIRST_PAIR] * 12000), False)
        self.assertIs(never_differ(LEXER, LEXER, ["a"] * 100000), False)
        one = built(cycles(5, 6))
        self.assertIs(never_differ(one, one, pair_configurations(one, one, most=2000)), True)
        self.assertLess(time.process_time() - before, 5)


class Errors(unittest.TestCase):

    CALLS = [lambda one, other: pair_successors(one, other, FIRST_PAIR, "a"), pair_configurations, shortest_difference,
             lambda one, other: pair_configurations(one, other, most=1),
             lambda one, other: shortest_difference(one, other, most=1),
             lambda one, other: never_differ(one, other, []), lambda one, other: never_differ(one, other, [FIRST_PAIR])]

    def test_not_flat_is_first(self):
        for call in self.CALLS:
            for given in lexing.NOT_FLAT:
                for other in (lexing.DOCUMENT, lexing.NESTED, lexing.LEAVING):
                    for pair in ((given, other), (other, given)):
                        with self.assertRaises(NotFlat):
                            call(built(pair[0]), built(pair[1]))

    def test_alphabets(self):
        for alphabet in ("ba", "a", "abc", "ac"):
            other = Lexer(alphabet, [("m", [])])
            for call in self.CALLS:
                for pair in ((LEXER, other), (other, LEXER)):
                    with self.assertRaises(AlphabetMismatch) as held:
                        call(*pair)
                    self.assertIsInstance(held.exception, CutError)


if __name__ == "__main__":
    unittest.main()
