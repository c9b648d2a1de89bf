"""Points 49 and 50: the greatest lookahead of any token, and certificates that there is no greater one."""

import time

from cutscribe.configurations import configurations
from cutscribe.lookahead import lookahead, lookahead_at_most
from cutscribe.tokens import scan, tokenize
from tests import lexing, reference, searching
from tests.lexing import A, AAB, AB, B, C, built, cycles, gap, one_mode, word
from tests.searching import FIRST

LEXER = built(lexing.DOCUMENT)
# A word a, and one for a run of a in front of b: it is read up to the end of the run, again for each a.
ENDLESS = [lexing.UNLIMITED, cycles(1), cycles(2), cycles(3, 4),
           one_mode(word("x", A), word("y", ("row", A, ("again", ("row", B, A), 0, None), A)), gap("g", B)),
           ("ab", [("p", [gap("x", A, ("go", "q"))]),
                   ("q", [word("y", ("row", B, ("again", A, 0, None), B)), word("z", AB)])]),
           # Of the ways to go on within a run of b, the first one ends at once, or behind a further a.
           one_mode(word("x", B), word("y", ("row", ("again", B, 1, None), C)), gap("g", ("set", "ac")),
                    alphabet="abc"),
           one_mode(word("x", B), word("y", ("row", ("again", B, 1, None), ("any", C, ("row", A, A, C)))),
                    gap("g", ("set", "ac")), alphabet="abc")]
LONG = one_mode(word("x", A), word("y", ("row",) + (A,) * 9 + (B,)))
ONE_LETTER = one_mode(word("x", A), word("y", ("row", A, A)), alphabet="a")
# Behind the word a the automaton reads on, but by b and by c the token would be longer: nothing but one a is scanned.
FORCED = one_mode(word("x", A), word("y", ("row", A, ("set", "bc"))), word("z", ("set", "bc")), alphabet="abc")
ALL = lexing.FLAT + ENDLESS + [LONG, ONE_LETTER, FORCED, lexing.WITHOUT_Y]


def lookaheads(lexer, text):
    """The number of characters that each token has scanned minus its length."""
    return [scanned - (end - start)
            for (_, start, end, _), (_, _, scanned, _) in zip(tokenize(lexer, text), scan(lexer, text))]


class Numbers:
    """For configurations and pending pairs how many characters may still be read on, by the words of point 50."""

    def __init__(self, lexer):
        self.lexer = lexer
        self.machines = searching.Machines(lexer)
        self.known = {}

    def of(self, configuration, pair):
        key = (configuration, pair)
        if key not in self.known:
            self.known[key] = max([0] + [self.behind(configuration, pair, c) for c in self.lexer.alphabet])
        return self.known[key]

    def behind(self, configuration, pair, character):
        moved = [(mode, self.machines.next(mode, state, character)) for mode, state in configuration[3]]
        if any(self.machines.rule(*inner) is not None for inner in moved):
            return 0
        after = (pair[0], self.machines.next(pair[0], pair[1], character))
        if not self.machines.live(*after):
            return 1
        ways = lexing.ways(self.lexer, configuration, character)
        return 1 + max([0] + [self.of(reached, after) for _, reached in ways])

    def certificate(self):
        return [(here, tuple(self.of(here, pair) for pair in here[3])) for here in lexing.all_reachable(self.lexer)]


class Lookahead(searching.SearchChecks):

    def finite(self, given, number):
        """The greatest lookahead is this number, also on all short texts not exceeded, and the text has it."""
        lexer = built(given)
        found = lookahead(lexer)
        self.assertEqual([type(found), len(found)], [tuple, 3])
        self.assertEqual(found[:2], ("finite", number))
        self.assertIs(type(found[1]), int)
        self.assertIn(number, lookaheads(lexer, found[2]))
        self.assertEqual(lookahead(lexer), found)

    def infinite(self, given):
        lexer = built(given)
        found = lookahead(lexer, most=2000)
        self.assertEqual([type(part) for part in (found, *found)], [tuple, str, str, str, str])
        kind, head, loop, tail = found
        self.assertEqual([len(found), kind], [4, "infinite"])
        self.assertNotEqual(loop, "")
        for many in (1, 2, 3, 4, 5, 10, 20):
            text = head + loop * many + tail
            self.assertGreaterEqual(max(lookaheads(lexer, text)), many)
        self.assertEqual(lookahead(lexer, most=2000), found)

    def test_example_of_the_document(self):
        self.assertEqual(lookahead(LEXER)[:2], ("finite", 2))
        self.finite(lexing.DOCUMENT, 2)

    def test_by_hand(self):
        self.finite(lexing.WITHOUT_Y, 0)
        self.finite(lexing.KEY_FIRST, 0)
        self.finite(lexing.NAME_FIRST, 0)
        self.finite(lexing.EVERYTHING, 0)
        self.finite(LONG, 9)
        self.finite(ONE_LETTER, 0)
        self.finite(FORCED, 1)
        self.finite(one_mode(word("x", A), word("y", AAB)), 2)
        self.finite(one_mode(word("x", A), word("y", ("row", A, A, A))), 2)
        self.finite(one_mode(word("x", A), word("y", ("row", A, A, A)), alphabet="a"), 1)

    def test_lexers_without_tokens_that_are_read_on(self):
        self.finite(lexing.NO_RULES, 0)
        self.finite(lexing.NEVER_MATCHED, 0)
        self.assertNotEqual(lookahead(built(lexing.NO_RULES))[2], "")
        self.finite(one_mode(alphabet="c"), 0)

    def test_error_tokens_count(self):
        self.finite(lexing.ONLY_LONG, 3)
        self.finite(one_mode(word("x", ("row", A, A, A, A, B))), 4)

    def test_a_last_character_by_which_the_guess_fails(self):
        # Only b behind aaa ends the reading, and there a token that has been begun cannot end as guessed.
        self.finite(one_mode(word("x", ("row", A, A)), word("y", ("row", A, A, A, A))), 2)
        self.finite(one_mode(word("x", A), word("k", B), word("y", ("row", A, B, A))), 2)

    def test_endless_ones(self):
        for given in ENDLESS:
            self.infinite(given)
        self.infinite(cycles(5, 6))

    def test_modes(self):
        self.finite(lexing.CROSSING, 4)
        self.finite(lexing.TURNS, 2)

    def test_all_texts(self):
        for given in ALL:
            lexer = built(given)
            found = lookahead(lexer)
            texts = reference.texts(given[0], 8 if len(given[0]) < 3 else 5)
            greatest = max(max(lookaheads(lexer, text), default=0) for text in texts)
            if found[0] == "finite":
                self.finite(given, found[1])
                self.assertGreaterEqual(found[1], greatest)
                if found[1] < 5:
                    self.assertEqual(found[1], greatest)
            else:
                self.infinite(given)

    def test_most(self):
        for given in ALL:
            lexer = built(given)
            many, expected = len(lexing.all_reachable(lexer)), lookahead(lexer)
            self.bounded(lambda most: lookahead(lexer, most=most), many, expected)

    def test_most_left_out_is_four_hundred(self):
        self.assertEqual(lookahead(built(lexing.FOUR_HUNDRED))[0], "infinite")
        self.too_large(lambda: lookahead(built(lexing.ONE_MORE)))
        self.assertEqual(lookahead(built(lexing.ONE_MORE), most=401)[0], "infinite")

    def test_long_searches(self):
        before = time.process_time()
        self.infinite(cycles(6, 7))
        self.too_large(lambda: lookahead(built(cycles(7, 8)), most=2000))
        self.assertLess(time.process_time() - before, 10)


class LookaheadAtMost(searching.SearchChecks):

    def test_example_of_the_document(self):
        self.assertIs(lookahead_at_most(LEXER, 0, []), False)

    def test_by_hand(self):
        one, three = (0, 1), (0, 3)
        value = [((0, "inside", 1, ()), ()), ((0, "inside", 1, (three,)), (1,)), ((0, "inside", 3, ()), ()),
                 (FIRST, ()), ((0, "start", 0, (one,)), (2,)), ((0, "start", 0, (one, three)), (2, 1))]
        self.assertEqual([here for here, _ in value], configurations(LEXER))
        for bound in (2, 3, 10 ** 30):
            self.assertIs(lookahead_at_most(LEXER, bound, value), True)
            self.assertIs(lookahead_at_most(LEXER, bound, tuple(reversed(value))), True)
        for bound in (0, 1):
            self.assertIs(lookahead_at_most(LEXER, bound, value), False)

    def test_exactly_the_bounds_that_hold(self):
        for given in ALL:
            lexer = built(given)
            found = lookahead(lexer)
            if found[0] == "infinite":
                value = [(here, tuple(1000 - at for at in range(len(here[3])))) for here in configurations(lexer)]
                self.assertIs(lookahead_at_most(lexer, 1000, value), False)
                continue
            value = Numbers(lexer).certificate()
            for bound in (found[1], found[1] + 1, found[1] + 100):
                self.assertIs(lookahead_at_most(lexer, bound, value), True)
                self.assertIs(lookahead_at_most(lexer, bound, tuple(value)), True)
                self.assertIs(lookahead_at_most(lexer, bound, value[::-1]), True)
            for bound in range(found[1]):
                self.assertIs(lookahead_at_most(lexer, bound, value), False)
            self.needs_all(lambda given: lookahead_at_most(lexer, found[1], given), value)

    def test_each_configuration_once(self):
        for given in (lexing.DOCUMENT, lexing.ONLY_LONG, lexing.NO_RULES):
            lexer = built(given)
            value = Numbers(lexer).certificate()
            self.refuses(lambda given: lookahead_at_most(lexer, 9, given), value, value)
            self.refuses(lambda given: lookahead_at_most(lexer, 9, given), value, [
                (here, tuple(number + 1 for number in numbers)) for here, numbers in value])

    def test_numbers_that_are_too_small(self):
        for given in (lexing.DOCUMENT, lexing.ONLY_LONG, lexing.CROSSING, LONG, FORCED):
            lexer = built(given)
            bound, value = lookahead(lexer)[1], Numbers(lexer).certificate()
            for at, (here, numbers) in enumerate(value):
                for place in range(len(numbers)):
                    if numbers[place] > 0:
                        smaller = numbers[:place] + (numbers[place] - 1,) + numbers[place + 1:]
                        self.assertIs(lookahead_at_most(lexer, bound, value[:at] + [(here, smaller)] + value[at + 1:]),
                                      False)

    def test_numbers_that_are_greater_than_needed(self):
        value = Numbers(LEXER).certificate()
        greater = [(here, tuple(number + 5 for number in numbers)) for here, numbers in value]
        self.assertIs(lookahead_at_most(LEXER, 7, greater), True)
        self.assertIs(lookahead_at_most(LEXER, 6, greater), False)
        # The number of a pair that has moved may exceed the bound.
        long = built(LONG)
        numbers = dict(Numbers(long).certificate())
        start = (0, "start", 0, ((0, 1),))
        self.assertEqual(numbers[start], (9,))
        numbers[start] = (10,)
        self.assertIs(lookahead_at_most(long, 9, list(numbers.items())), False)
        self.assertIs(lookahead_at_most(long, 10, list(numbers.items())), True)

    def test_a_number_above_the_bound_where_no_token_ends(self):
        # A configuration that is not reachable, and to which nothing leads by an event.
        value = Numbers(LEXER).certificate() + [((0, "inside", 4, ((0, 1),)), (50,))]
        self.assertIs(lookahead_at_most(LEXER, 2, value), True)
        value[-1] = ((0, "inside", 4, ((0, 1),)), (0,))
        self.assertIs(lookahead_at_most(LEXER, 2, value), False)

    def test_zero_is_enough_where_each_character_makes_a_pair_accept(self):
        lexer = built(ONE_LETTER)
        start = (0, "start", 0, ((0, 1),))
        value = [(FIRST, ()), (start, (0,)), ((0, "inside", 1, ()), ())]
        self.assertIs(lookahead_at_most(lexer, 0, value), True)
        value[1] = (start, (-1,))
        self.assertIs(lookahead_at_most(lexer, 0, value), False)
        value[1] = (start, (1,))
        self.assertIs(lookahead_at_most(lexer, 0, value), False)
        self.assertIs(lookahead_at_most(lexer, 1, value), True)

    def test_one_at_least_also_without_a_successor(self):
        # By a in the state 4, from which no token ends, the configuration has no successor.
        value = Numbers(LEXER).certificate()
        here = (0, "inside", 4, ((0, 1), (0, 3)))
        for numbers, expected in (((1, 1), True), ((2, 1), True), ((0, 1), False), ((1, 0), False), ((0, 0), False)):
            self.assertIs(lookahead_at_most(LEXER, 2, value + [(here, numbers)]), expected)

    def test_wrong_elements(self):
        value = Numbers(LEXER).certificate()
        here, dead = (0, "inside", 4, ((0, 3),)), (0, "inside", 4, ())
        self.assertIs(lookahead_at_most(LEXER, 2, value + [(here, (1,)), (dead, ())]), True)
        self.refuses(lambda given: lookahead_at_most(LEXER, 2, given), value, [
            (here, ()), (here, (1, 1)), (here, (True,)), (here, (-1,)), (here, ("1",)), (here, (None,)),
            (here, ((1,),)),
            (here, [1]), (here, 1), (here, None), (here, "1"), (here, (1,), 1), (here,), [here, (1,)], here,
            (list(here), (1,)), ((0, "inside", 4, [(0, 3)]), (1,)), ((0, "inside", 6, ((0, 3),)), (1,)),
            ((0, "start", 4, ((0, 3),)), (1,)), ((0, "inside", True, ((0, 3),)), (1,)),
            ((0, "inside", 4, ((0, 4),)), (1,)),
            ((0, "inside", 4, ((0, True),)), (1,)), ((0, "inside", 4, ((0, 3), (0, 1))), (1, 1)), (dead, (1,)),
            (dead, None), (dead, []), (dead, ""), (dead, False), (None, ()), (True, ()), ((), ()), ((1,), here)])

    def test_bools_in_place_of_integers(self):
        lexer = built(lexing.NO_RULES)
        self.assertIs(lookahead_at_most(lexer, 0, [(FIRST, ())]), True)
        for broken in ((False, "start", 0, ()), (0, "start", False, ())):
            self.assertIs(lookahead_at_most(lexer, 0, [(broken, ())]), False)

    def test_large_values(self):
        before = time.process_time()
        self.assertIs(lookahead_at_most(LEXER, 2, Numbers(LEXER).certificate() * 1000), False)
        self.assertIs(lookahead_at_most(LEXER, 2, [(FIRST, ())] * 10000), False)
        self.assertIs(lookahead_at_most(LEXER, 2, [((), ())] * 30000), False)
        large = one_mode(word("x", A),
                         *[word("stuvw"[at], ("row",) + (A,) * (9 - at) + (C,) * at + (B,)) for at in range(5)],
                         alphabet="abc")
        lexer = built(large)
        value = Numbers(lexer).certificate()
        self.assertIs(lookahead_at_most(lexer, lookahead(lexer)[1], value), True)
        self.assertLess(time.process_time() - before, 5)


class Errors(searching.SearchChecks):

    def test_not_flat(self):
        for call in (lookahead, lambda lexer: lookahead(lexer, most=1), lambda lexer: lookahead_at_most(lexer, 0, []),
                     lambda lexer: lookahead_at_most(lexer, 5, [(FIRST, ())])):
            self.not_flat(call)

    def test_a_lexer_is_not_changed(self):
        for given in ALL:
            lexer = built(given)
            lookahead(lexer)
            self.assertEqual(lexer, built(given))
