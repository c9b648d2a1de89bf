"""Points 47 and 48: the shortest text with an avoidable error, items, and certificates that there is none."""

import time

from cutscribe.avoidable import avoidable_items, never_avoidable, shortest_avoidable
from cutscribe.lexers import Lexer
from cutscribe.tokens import tokenize
from tests import lexing, reference, searching
from tests.lexing import A, AB, B, C, built, cycles, gap, one_mode, word
from tests.searching import FIRST

FIRST_ITEM = (FIRST, "none", 0, "start", 0)
LEXER = built(lexing.DOCUMENT)
# The texts a, ab and bc, and that of the document with other actions.
WORDS = one_mode(word("a", A), word("ab", ("row", A, B)), word("bc", ("row", B, C)), alphabet="abc")
GAPS = one_mode(gap("a", A), gap("ab", ("row", A, B)), gap("bc", ("row", B, C)), alphabet="abc")
# The longer token ab leads to a mode without rules, the token a to one that takes all that follows.
ASTRAY = ("ab", [
    ("m", [word("x", ("row", A, B), ("go", "o")), word("y", A, ("go", "n"))]),
    ("n", [word("z", AB)]),
    ("o", [])])
# The rule ab is the first one that matches: a piece ab does not lead to the mode n.
FIRST_RULE = ("ab", [
    ("m", [word("x", ("row", A, B), ("go", "o")), word("y", ("row", A, B), ("go", "n"))]),
    ("n", [word("z", AB)]),
    ("o", [])])
# The error comes first: behind b, which nothing takes, every splitting is at its end.
NO_WAY = one_mode(word("x", A), word("y", ("row", A, A)))
LATE = one_mode(word("x", ("any", A, ("row", A, A))), word("y", ("row", A, B, B)), word("z", ("row", B, B, B)))
ALL = lexing.FLAT + [WORDS, GAPS, ASTRAY, FIRST_RULE, NO_WAY, LATE]


def counted(ends, length, other):
    """A lexer whose reachable items are counted below."""
    return ("abc", [
        ("main", cycles(5)[1][0][1] + [gap("g", C, ("go", "n"))]),
        ("n", [word("y", ("row",) + (C,) * ends),
               word("z", ("row", ("again", ("row",) + (A,) * length, 0, None), B)),
               word("w", ("row",) + (C,) * other + (A,))])])


FOUR_HUNDRED_ITEMS = counted(3, 7, 5)
ONE_MORE_ITEM = counted(2, 3, 6)


class Splittings:
    """Splittings by the words of point 47: matching texts are looked up, nothing is done with automata."""

    def __init__(self, given, most):
        self.first = given[1][0][0]
        self.rules = {name: [(rule, reference.language(given[0], rule[1], most)) for rule in rules]
                      for name, rules in given[1]}

    def has_one(self, text):
        ends = {0: {self.first}}
        for start in range(len(text)):
            for mode in ends.get(start, ()):
                for stop in range(start + 1, len(text) + 1):
                    rule = next((rule for rule, found in self.rules[mode] if text[start:stop] in found), None)
                    if rule is not None:
                        ends.setdefault(stop, set()).add(rule[3][1] if rule[3][0] == "go" else mode)
        return len(text) in ends


def item_ways(lexer, item, character):
    """The items to which an item leads, by the words of point 48."""
    machines = searching.Machines(lexer)
    configuration, seen, mode, _, state = item
    after = machines.next(mode, state, character)
    rule = machines.rule(mode, after)
    moves = [(mode, "inside", after)] if machines.live(mode, after) else []
    moves += [] if rule is None else [(machines.behind(mode, rule), "start", 0)]
    return [(reached, "error" if event == ("", "error") else seen) + move
            for event, reached in lexing.ways(lexer, configuration, character) for move in moves]


def closure(lexer):
    return searching.closure(FIRST_ITEM, lexer.alphabet, lambda *step: item_ways(lexer, *step))


class ShortestAvoidable(searching.SearchChecks):

    def test_example_of_the_document(self):
        self.assertEqual(shortest_avoidable(built(WORDS)), "abc")
        self.assertEqual(shortest_avoidable(built(GAPS)), "abc")

    def test_by_hand(self):
        self.assertEqual(shortest_avoidable(built(ASTRAY)), "aba")
        self.assertEqual(shortest_avoidable(built(LATE)), "aabb")
        self.assertEqual(shortest_avoidable(built(one_mode(word("x", A), word("y", ("row", A, A, A))))), None)
        self.assertEqual(shortest_avoidable(built(one_mode(
            word("x", ("again", A, 2, 2)), word("y", ("row",) + (A,) * 5), alphabet="a"))), "aaaaaa")

    def test_none(self):
        for given in (lexing.DOCUMENT, lexing.NO_RULES, lexing.NEVER_MATCHED, lexing.EVERYTHING, FIRST_RULE, NO_WAY):
            self.assertIsNone(shortest_avoidable(built(given)))

    def test_the_order_of_the_alphabet_decides(self):
        last = ("set", "d")
        for alphabet, expected in (("abcd", "abc"), ("dcba", "dcb")):
            rules = [word("x", ("any", A, last)), word("y", ("any", ("row", A, B), ("row", last, C))),
                     word("z", ("any", ("row", B, C), ("row", C, B)))]
            self.assertEqual(shortest_avoidable(Lexer(alphabet, [("m", rules)])), expected)

    def test_texts_that_lead_to_the_same_place_are_taken_in_their_order(self):
        # Both aa and ab lead to the mode o, in which b, behind a token that would be ba, is an error.
        lexer = Lexer("abc", [lexing.MEETING[1][0], lexing.MEETING[1][1], ("o", WORDS[1][0][1])])
        self.assertEqual(shortest_avoidable(lexer), "aaabc")

    def test_all_texts(self):
        for given in ALL:
            lexer = built(given)
            most = 6 if len(given[0]) == 2 else 4
            splittings = Splittings(given, most)
            expected = searching.first_text(lexer, most, lambda text: splittings.has_one(text) and any(
                token[3] == "error" for token in tokenize(lexer, text)))
            found = shortest_avoidable(lexer)
            if found is None or len(found) <= most:
                self.assertEqual(found, expected)
            else:
                self.assertIsNone(expected)
            self.assertEqual(shortest_avoidable(lexer), found)

    def test_most(self):
        for given in ALL:
            lexer = built(given)
            many, shortest = len(closure(lexer)), shortest_avoidable(lexer)
            self.bounded(lambda most: shortest_avoidable(lexer, most=most), many, shortest)

    def test_most_left_out_is_four_hundred(self):
        self.assertIsNone(shortest_avoidable(built(FOUR_HUNDRED_ITEMS)))
        self.too_large(lambda: shortest_avoidable(built(ONE_MORE_ITEM)))
        self.assertEqual(shortest_avoidable(built(ONE_MORE_ITEM), most=401), "cccccccaaab")

    def test_long_searches(self):
        before = time.process_time()
        self.too_large(lambda: shortest_avoidable(built(cycles(6, 7)), most=2000))
        self.assertIsNone(shortest_avoidable(built(cycles(8)), most=2000))
        self.assertLess(time.process_time() - before, 5)


class AvoidableItems(searching.SearchChecks):

    def test_by_hand(self):
        lexer = built(lexing.NO_RULES)
        # No piece of a splitting begins: nothing is reached.
        self.assertEqual(avoidable_items(lexer), [FIRST_ITEM])
        lexer = built(one_mode(word("x", ("row", A, A)), alphabet="a"))
        inside, pending = (0, "inside", 1, ()), (0, "start", 0, ((0, 1),))
        self.assertEqual(avoidable_items(lexer), [
            (inside, "none", 0, "inside", 1), (FIRST, "none", 0, "start", 0), (pending, "error", 0, "inside", 1)])

    def test_all_that_are_reachable(self):
        for given in ALL:
            lexer = built(given)
            expected = closure(lexer)
            self.new_list(lambda: avoidable_items(lexer), expected)
            self.bounded(lambda most: avoidable_items(lexer, most=most), len(expected), expected)

    def test_most_left_out_is_four_hundred(self):
        self.assertEqual(len(avoidable_items(built(FOUR_HUNDRED_ITEMS))), 400)
        self.too_large(lambda: avoidable_items(built(ONE_MORE_ITEM)))
        self.assertEqual(len(avoidable_items(built(ONE_MORE_ITEM), most=401)), 401)

    def test_the_splitting_goes_its_own_way(self):
        found = avoidable_items(built(ASTRAY))
        self.assertIn(((2, "start", 0, ()), "error", 1, "start", 0), found)
        self.assertIn(((2, "start", 0, ()), "none", 1, "start", 0), found)


class NeverAvoidable(searching.SearchChecks):

    def test_example_of_the_document(self):
        self.assertIs(never_avoidable(LEXER, avoidable_items(LEXER)), True)

    def test_exactly_the_lexers_without_avoidable_errors(self):
        for given in ALL:
            lexer = built(given)
            value = avoidable_items(lexer)
            if shortest_avoidable(lexer) is None:
                self.holds(lambda given: never_avoidable(lexer, given), value)
                self.needs_all(lambda given: never_avoidable(lexer, given), value)
            else:
                self.assertIs(never_avoidable(lexer, value), False)
                self.assertIs(never_avoidable(lexer, [item for item in value if item[1] == "none"]), False)

    def test_an_end_that_nothing_leads_to(self):
        value = avoidable_items(LEXER)
        self.refuses(lambda given: never_avoidable(LEXER, given), value, [
            (FIRST, "error", 0, "start", 0), ((0, "start", 0, ((0, 3),)), "error", 0, "start", 0)])
        lexer = built(lexing.NO_RULES)
        self.assertIs(never_avoidable(lexer, [FIRST_ITEM, (FIRST, "error", 0, "start", 0)]), False)
        self.assertIs(never_avoidable(lexer, [FIRST_ITEM, (FIRST, "error", 0, "inside", 0)]), True)

    def test_further_elements(self):
        value = avoidable_items(LEXER)
        for further in (((0, "inside", 4, ()), "none", 0, "start", 0), ((0, "inside", 4, ()), "error", 0, "start", 0),
                        (FIRST, "error", 0, "inside", 4), (FIRST, "none", 0, "inside", 5)):
            self.assertIs(never_avoidable(LEXER, value + [further]), True, further)
        self.refuses(lambda given: never_avoidable(LEXER, given), value, [
            (FIRST, "error", 0, "inside", 0), (FIRST, "error", 0, "inside", 3)])

    def test_wrong_elements(self):
        value = avoidable_items(LEXER)
        dead = (0, "inside", 4, ())
        self.refuses(lambda given: never_avoidable(LEXER, given), value, [
            (dead, "none", 0, "start", 4), (dead, "none", 1, "start", 0), (dead, "none", -1, "start", 0),
            (dead, "none", 0, "inside", 6), (dead, "none", 0, "inside", -1), (dead, "", 0, "start", 0),
            (dead, None, 0, "start", 0), (dead, True, 0, "start", 0), (dead, ["none"], 0, "start", 0),
            (dead, "word", 0, "start", 0), (dead, "none", False, "start", 0), (dead, "none", 0, "start", False),
            (dead, "none", 0, "gap", 0), (dead, "none", 0, 0, 0), (dead, "none", 0, None, 0),
            (dead, "none", "0", "start", 0), (dead, "none", 0, "inside", "4"), (dead, "none", 0, "inside", [4]),
            (dead, "none", 0, "start"), (dead, "none", 0, "start", 0, 0), [dead, "none", 0, "start", 0],
            (list(dead), "none", 0, "start", 0), (dead[:3], "none", 0, "start", 0), (None, "none", 0, "start", 0),
            ((0, "start", 4, ()), "none", 0, "start", 0), ((0, "inside", 6, ()), "none", 0, "start", 0),
            ((0, "inside", 4, []), "none", 0, "start", 0), ((0, "inside", 4, ((0, 4),)), "none", 0, "start", 0),
            ((0, "inside", True, ()), "none", 0, "start", 0), dead, ("none", dead, 0, "start", 0)])
        self.assertIs(never_avoidable(LEXER, value + [(dead, "none", 0, "start", 0)]), True)

    def test_bools_in_place_of_integers(self):
        lexer = built(lexing.NO_RULES)
        self.assertIs(never_avoidable(lexer, [FIRST_ITEM]), True)
        for broken in ((FIRST, "none", False, "start", 0), (FIRST, "none", 0, "start", False),
                       ((False, "start", 0, ()), "none", 0, "start", 0),
                       ((0, "start", False, ()), "none", 0, "start", 0)):
            self.assertIs(never_avoidable(lexer, [broken]), False)

    def test_large_values(self):
        before = time.process_time()
        value = avoidable_items(LEXER)
        self.assertIs(never_avoidable(LEXER, value * 700), True)
        self.assertIs(never_avoidable(LEXER, [FIRST_ITEM] * 9000), False)
        self.assertIs(never_avoidable(LEXER, [()] * 90000), False)
        lexer = built(cycles(8))
        self.assertIs(never_avoidable(lexer, avoidable_items(lexer, most=2000)), True)
        self.assertLess(time.process_time() - before, 5)


class Errors(searching.SearchChecks):

    def test_not_flat(self):
        for call in (shortest_avoidable, avoidable_items, lambda lexer: shortest_avoidable(lexer, most=1),
                     lambda lexer: avoidable_items(lexer, most=1), lambda lexer: never_avoidable(lexer, []),
                     lambda lexer: never_avoidable(lexer, [FIRST_ITEM])):
            self.not_flat(call)
