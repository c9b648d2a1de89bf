"""Points 32, 33 and 35 to 37: successors of configurations, and all that are reachable."""

import copy
import itertools
import time
import unittest

from cutscribe.configurations import configurations, path, successors
from cutscribe.errors import CutError, NotFlat, TooLarge
from cutscribe.lexers import Lexer
from tests import lexing
from tests.lexing import A, AB, B, C, LEAVE, STAY, built, cycles, gap, word

FIRST = (0, "start", 0, ())
X = ("x", "word")
ERROR = ("", "error")


def start(*pending, mode=0):
    return (mode, "start", 0, pending)


def inside(state, *pending, mode=0):
    return (mode, "inside", state, pending)


def made_by_hand(given):
    """Configurations of a lexer with up to two pending pairs, reachable or not."""
    lexer = built(given)
    machines = [lexer.automaton(name) for name in lexer.mode_names()]
    pairs = [(mode, state) for mode, both in enumerate(machines) for state in sorted(lexing.live_states(both))]
    pending = [chosen for many in range(3) for chosen in itertools.combinations(pairs, many)]
    places = [(mode, "inside", state) for mode, both in enumerate(machines) for state in range(len(both[0]))]
    places += [(mode, "start", 0) for mode in range(len(machines))]
    return [place + (chosen,) for place in places for chosen in pending]


class Checks(unittest.TestCase):

    def steps(self, given, configuration, character, expected):
        """The successors are as expected; a second call returns a new, equal list."""
        lexer = built(given)
        before = copy.deepcopy(configuration)
        first = successors(lexer, configuration, character)
        self.assertIs(type(first), list)
        self.assertEqual(first, expected)
        first.append("more")
        first.reverse()
        self.assertEqual(successors(lexer, configuration, character), expected)
        self.assertEqual(configuration, before)

    def too_large(self, lexer, **most):
        for _ in range(2):
            with self.assertRaises(TooLarge) as held:
                configurations(lexer, **most)
            self.assertEqual(held.exception.what, "search")
            self.assertIsInstance(held.exception, CutError)


class NotFlatLexers(unittest.TestCase):

    def test_ahead_of_all_other_errors(self):
        calls = (lambda lexer: successors(lexer, FIRST, "a"), configurations,
                 lambda lexer: configurations(lexer, most=1), lambda lexer: path(lexer, ""),
                 lambda lexer: path(lexer, "ab"), lambda lexer: path(lexer, "d%"))
        for given in lexing.NOT_FLAT + [("ab", [("m", []), ("n", [word("x", A, LEAVE)])]),
                                        ("ab", [("m", [word("x", A), gap("y", B, ("enter", "m"))])])]:
            for call in calls:
                with self.assertRaises(NotFlat) as held:
                    call(built(given))
                self.assertIsInstance(held.exception, CutError)

    def test_flat_ones(self):
        for action in (STAY, ("go", "m"), ("go", "n")):
            lexer = Lexer("ab", [("m", [word("x", A, action)]), ("n", [])])
            self.assertEqual(path(lexer, ""), [FIRST])


class Successors(Checks):

    def test_example_of_the_document(self):
        self.steps(lexing.DOCUMENT, FIRST, "a", [(None, inside(1)), (X, start((0, 1)))])

    def test_all_reachable_configurations_of_the_document(self):
        g = ("g", "gap")
        self.steps(lexing.DOCUMENT, FIRST, "b", [(g, FIRST)])
        self.steps(lexing.DOCUMENT, inside(1), "a", [(None, inside(3))])
        self.steps(lexing.DOCUMENT, inside(1), "b", [])
        self.steps(lexing.DOCUMENT, inside(3), "a", [])
        self.steps(lexing.DOCUMENT, inside(3), "b", [(("y", "word"), FIRST)])
        self.steps(lexing.DOCUMENT, start((0, 1)), "a", [(None, inside(1, (0, 3))), (X, start((0, 1), (0, 3)))])
        self.steps(lexing.DOCUMENT, start((0, 1)), "b", [(g, FIRST)])
        self.steps(lexing.DOCUMENT, inside(1, (0, 3)), "a", [(None, inside(3))])
        self.steps(lexing.DOCUMENT, inside(1, (0, 3)), "b", [])
        self.steps(lexing.DOCUMENT, start((0, 1), (0, 3)), "a", [(None, inside(1, (0, 3))),
                                                                 (X, start((0, 1), (0, 3)))])
        self.steps(lexing.DOCUMENT, start((0, 1), (0, 3)), "b", [])

    def test_pending_pairs_that_merge(self):
        # State 1 is behind one a, state 3 behind several.
        self.steps(lexing.UNLIMITED, start((0, 1), (0, 3)), "a", [(None, inside(1, (0, 3))),
                                                                  (X, start((0, 1), (0, 3)))])
        self.steps(lexing.UNLIMITED, inside(1, (0, 1), (0, 3)), "a", [(None, inside(3, (0, 3)))])

    def test_the_pair_of_the_token_that_ends_may_be_there_already(self):
        given = lexing.one_mode(word("x", ("row", B, ("again", A, 0, None))), word("y", ("again", A, 2, None)),
                                word("z", ("row", A, B)))
        rows, marks = built(given).automaton("main")
        lone, several = rows[0][0], rows[rows[0][0]][0]
        self.assertEqual([marks[lone], marks[several], rows[several][0]], [None, 1, several])
        self.steps(given, inside(several), "a", [(None, inside(several)), (("y", "word"), start((0, several)))])
        self.steps(given, start((0, rows[0][1])), "b", [(None, inside(rows[0][1])), (X, start((0, rows[0][1])))])
        # Both the pair that moves and the error that ends here stand in the state behind one a.
        self.steps(given, start((0, 0)), "a", [(None, inside(lone, (0, lone))), (ERROR, start((0, lone)))])

    def test_pending_pairs_that_die(self):
        given = lexing.one_mode(word("x", A), word("y", B), word("z", ("row", A, A, B)), word("w", ("row", B, B, B)))
        rows, _ = built(given).automaton("main")
        a, b = rows[0]
        y = ("y", "word")
        self.steps(given, start((0, a)), "b", [(None, inside(b)), (y, start((0, b)))])
        self.steps(given, start((0, b)), "a", [(None, inside(a)), (X, start((0, a)))])
        self.steps(given, start((0, a), (0, b)), "b", [
            (None, inside(b, (0, rows[b][1]))), (y, start(*sorted([(0, b), (0, rows[b][1])])))])

    def test_pending_pairs_that_forbid(self):
        self.steps(lexing.UNLIMITED, start((0, 1)), "b", [])
        self.steps(lexing.UNLIMITED, start((0, 3)), "b", [])
        self.steps(lexing.UNLIMITED, inside(1, (0, 1), (0, 3)), "b", [])
        self.steps(lexing.UNLIMITED, inside(1, (0, 3)), "b", [])
        self.steps(lexing.UNLIMITED, inside(1), "b", [(("y", "word"), FIRST)])

    def test_pending_pairs_stand_in_ascending_order(self):
        # The states of a cycle of five: behind the last one comes the first one again.
        given = cycles(5)
        rows, _ = built(given).automaton("main")
        cycle = [rows[0][0]]
        for _ in range(4):
            cycle.append(rows[cycle[-1]][0])
        inner = sorted(state for state in cycle if state != 0)
        for many in range(1, len(inner) + 1):
            for chosen in itertools.combinations(inner, many):
                moved = sorted((0, rows[state][0]) for state in chosen)
                found = successors(built(given), start(*[(0, state) for state in chosen]), "a")
                self.assertEqual(found[0], (None, inside(rows[0][0], *moved)))
                self.assertEqual(found[1], (X, start(*sorted(set(moved + [(0, rows[0][0])])))))

    def test_errors(self):
        self.steps(lexing.NO_RULES, FIRST, "b", [(ERROR, FIRST)])
        self.steps(lexing.NO_RULES, start(), "a", [(ERROR, start())])
        self.steps(lexing.NO_RULES, inside(0), "a", [])
        self.steps(lexing.ONLY_LONG, FIRST, "a", [(None, inside(1)), (ERROR, start((0, 1)))])
        self.steps(lexing.ONLY_LONG, inside(1), "a", [])
        self.steps(lexing.ONLY_LONG, start((0, 1)), "a", [(None, inside(1)), (ERROR, start((0, 1)))])

    def test_modes(self):
        # In the mode one of TURNS, state 1 is behind a, state 2 behind b, state 4 behind ab and state 6 behind bb.
        self.steps(lexing.TURNS, inside(1), "b", [(X, start(mode=1))])
        self.steps(lexing.TURNS, inside(2), "b", [(("h", "gap"), start(mode=0))])
        self.steps(lexing.TURNS, start(mode=1), "b", [(("z", "word"), start(mode=0))])
        self.steps(lexing.TURNS, start(mode=1), "a", [(None, inside(1, mode=1)), (ERROR, start((1, 1), mode=1))])
        self.steps(lexing.TURNS, start((1, 1), mode=1), "b", [(("z", "word"), start(mode=0))])
        self.steps(lexing.TURNS, start((1, 1), mode=1), "a", [])
        self.steps(lexing.TURNS, inside(5, mode=1), "b", [(("u", "word"), start(mode=2))])
        self.steps(lexing.TURNS, start(mode=2), "a", [(ERROR, start(mode=2))])
        # A pair of an earlier token keeps the mode in which the token was begun.
        self.steps(lexing.CROSSING, FIRST, "a", [(None, inside(1)), (("x", "gap"), start((0, 1), mode=1))])
        self.steps(lexing.CROSSING, start((0, 1), mode=1), "a", [
            (None, inside(1, (0, 3), mode=1)), (("y", "word"), start((0, 3), (1, 1), mode=0))])
        self.steps(lexing.CROSSING, start((0, 3), (1, 1), mode=0), "a", [
            (None, inside(1, (0, 4))), (("x", "gap"), start((0, 1), (0, 4), mode=1))])
        self.steps(lexing.CROSSING, start((0, 1), (0, 5), mode=1), "b", [])

    def test_configurations_made_by_hand(self):
        for given in lexing.FLAT:
            lexer = built(given)
            for configuration in made_by_hand(given):
                for character in given[0]:
                    self.assertEqual(successors(lexer, configuration, character),
                                     lexing.ways(lexer, configuration, character), configuration)

    def test_kinds_of_values(self):
        for given in lexing.FLAT:
            lexer = built(given)
            for configuration in configurations(lexer):
                for character in given[0]:
                    for pair in successors(lexer, configuration, character):
                        self.assertEqual([type(part) for part in (pair, pair[1])], [tuple, tuple])
                        self.assertIn(type(pair[0]), (tuple, type(None)))
                        self.check_configuration(lexer, pair[1])

    def check_configuration(self, lexer, configuration):
        mode, phase, state, pending = configuration
        self.assertEqual([type(part) for part in configuration], [int, str, int, tuple])
        self.assertIn(phase, ("start", "inside"))
        self.assertTrue(phase == "inside" or state == 0)
        self.assertEqual(list(pending), sorted(set(pending)))
        for pair in pending:
            self.assertEqual([type(pair), type(pair[0]), type(pair[1])], [tuple, int, int])
            self.assertIn(pair[1], lexing.live_states(lexer.automaton(lexer.mode_names()[pair[0]])))


class Configurations(Checks):

    def test_all_configurations_of_the_document(self):
        self.assertEqual(configurations(built(lexing.DOCUMENT)), [
            inside(1), inside(1, (0, 3)), inside(3), FIRST, start((0, 1)), start((0, 1), (0, 3))])

    def test_the_ascending_list(self):
        for given in lexing.FLAT + [cycles(5), cycles(3, 4), cycles(3, 5)]:
            lexer = built(given)
            found = configurations(lexer)
            self.assertIs(type(found), list)
            self.assertEqual(found, lexing.all_reachable(lexer))
            self.assertEqual(found, sorted(set(found)))
            self.assertIn(FIRST, found)

    def test_small_ones(self):
        self.assertEqual(configurations(built(lexing.NO_RULES)), [FIRST])
        self.assertEqual(configurations(built(lexing.NO_RULES), most=1), [FIRST])
        self.assertEqual(configurations(built(lexing.WITHOUT_Y), most=1), [FIRST])

    def test_those_from_which_start_cannot_be_reached_again(self):
        given = lexing.one_mode(word("x", A), word("y", ("row", A, A, A)), alphabet="a")
        found = configurations(built(given))
        self.assertIn(inside(1, (0, 2)), found)
        self.assertEqual(successors(built(given), inside(1, (0, 2)), "a"), [])
        self.assertEqual(found, [inside(1), inside(1, (0, 2)), inside(2), FIRST, start((0, 1)), start((0, 1), (0, 2))])

    def test_most(self):
        for given in lexing.FLAT + [cycles(3), cycles(2, 3), cycles(4, 5)]:
            lexer = built(given)
            found = configurations(lexer, most=2000)
            for most in (len(found), len(found) + 1, 2000):
                self.assertEqual(configurations(lexer, most=most), found)
            for most in (len(found) - 1, len(found) // 2, 1):
                if most < len(found) and most > 0:
                    self.too_large(lexer, most=most)

    def test_most_left_out(self):
        lexer = built(cycles(4, 5))
        self.assertEqual(len(configurations(lexer, most=2000)), 463)
        self.too_large(lexer)
        self.too_large(lexer, most=462)
        self.assertEqual(len(configurations(lexer, most=463)), 463)
        self.assertEqual(len(configurations(built(cycles(3, 5)))), 273)

    def test_most_left_out_is_four_hundred(self):
        self.assertEqual(len(configurations(built(lexing.FOUR_HUNDRED), most=401)), 400)
        self.assertEqual(len(configurations(built(lexing.FOUR_HUNDRED))), 400)
        self.assertEqual(len(configurations(built(lexing.ONE_MORE), most=401)), 401)
        self.too_large(built(lexing.ONE_MORE))

    def test_returned_lists_are_new_ones(self):
        for given in lexing.FLAT:
            lexer = built(given)
            first = configurations(lexer)
            first.reverse()
            first.append("more")
            self.assertEqual(configurations(lexer), lexing.all_reachable(lexer))
            self.assertEqual(lexer, built(given))

    def test_long_searches(self):
        """Each call comes back within a second or two, here with some room for a slow machine."""
        for lengths, many in (((5, 6), 993), ((5, 7), 1333), ((6, 7), 1893), ((7, 8), None), ((3, 5, 7), None)):
            lexer = built(cycles(*lengths))
            before = time.process_time()
            if many is None:
                self.too_large(lexer, most=2000)
            else:
                self.assertEqual(len(configurations(lexer, most=2000)), many)
            self.assertLess(time.process_time() - before, 5)

    def test_rules_that_are_never_used_count_too(self):
        lexer = built(lexing.one_mode(word("all", AB), word("a", A)))
        self.assertEqual(configurations(lexer), [FIRST])


if __name__ == "__main__":
    unittest.main()
