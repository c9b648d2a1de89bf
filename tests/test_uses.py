"""Points 39 and 40: the shortest text that uses a rule, and certificates that there is none."""

import time

from cutscribe.configurations import configurations
from cutscribe.errors import CutError, UnknownRule
from cutscribe.lexers import Lexer
from cutscribe.tokens import tokenize
from cutscribe.uses import never_used, shortest_use
from tests import lexing, searching
from tests.lexing import A, AB, ABC, B, C, built, cycles, gap, word
from tests.searching import FIRST

LEXER = built(lexing.DOCUMENT)
SHADOWED = lexing.one_mode(word("all", AB), word("a", A), gap("b", B))
UNREACHED = ("ab", [("m", [word("x", A)]), ("n", [word("y", B), gap("z", A, ("go", "m"))])])
# The rule l comes to its end only behind the longer tokens k: so it never applies.
OUTRUN = lexing.one_mode(word("k", ("again", A, 1, None)), word("l", ("row", A, A, A)), gap("g", B))


def names(lexer):
    return [""] + [rule[0] for mode in lexer.mode_names() for rule in lexer.rules(mode)]


def has_token(lexer, name, text):
    return any(token[0] == name for token in tokenize(lexer, text))


class ShortestUse(searching.SearchChecks):

    def test_examples_of_the_document(self):
        self.assertEqual(shortest_use(LEXER, "y"), "aab")
        self.assertIsNone(shortest_use(LEXER, ""))

    def test_by_hand(self):
        self.assertEqual(shortest_use(LEXER, "x"), "a")
        self.assertEqual(shortest_use(LEXER, "g"), "b")
        self.assertEqual(shortest_use(built(lexing.NO_RULES), ""), "a")
        self.assertEqual(shortest_use(built(lexing.ONLY_LONG), "x"), "abab")
        self.assertEqual(shortest_use(built(lexing.ONLY_LONG), ""), "a")
        self.assertEqual(shortest_use(built(lexing.TURNS), "z"), "abb")
        self.assertEqual(shortest_use(built(lexing.TURNS), "u"), "abaaab")
        self.assertEqual(shortest_use(built(lexing.TURNS), "v"), "abaa")

    def test_the_order_of_the_alphabet_decides(self):
        rules = [("main",
                  [word("x", ("any", ("row", ("set", "b"), ("set", "c")), ("row", ("set", "c"), ("set", "b"))))])]
        self.assertEqual(shortest_use(Lexer("bc", rules), "x"), "bc")
        self.assertEqual(shortest_use(Lexer("cb", rules), "x"), "cb")

    def test_texts_that_lead_to_the_same_place_are_taken_in_their_order(self):
        self.assertEqual(shortest_use(built(lexing.MEETING), "t"), "aaa")

    def test_none(self):
        for given, name in ((SHADOWED, "a"), (SHADOWED, "b"), (SHADOWED, ""), (UNREACHED, "y"), (UNREACHED, "z"),
                            (OUTRUN, "l"), (lexing.NEVER_MATCHED, "x"), (lexing.NEVER_MATCHED, "g"),
                            (lexing.KEY_FIRST, "")):
            self.assertIsNone(shortest_use(built(given), name))

    def test_a_rule_that_applies_only_to_texts_that_are_not_first(self):
        """The shortest match of a rule may be that of an earlier one: the next longer one is used."""
        self.assertEqual(shortest_use(built(lexing.KEY_FIRST), "key"), "ab")
        self.assertEqual(shortest_use(built(lexing.one_mode(word("a", A), word("b", AB))), "b"), "b")
        self.assertEqual(shortest_use(built(lexing.one_mode(word("a", AB), word("b", ("again", AB, 1, 2)))), "b"), "aa")
        self.assertEqual(shortest_use(built(lexing.WITH_NOT), ""), searching.first_text(
            built(lexing.WITH_NOT), 6, lambda text: has_token(built(lexing.WITH_NOT), "", text)))

    def test_all_texts(self):
        for given in lexing.FLAT + [SHADOWED, UNREACHED, OUTRUN]:
            lexer = built(given)
            for name in names(lexer):
                found = shortest_use(lexer, name)
                first = searching.first_text(lexer, 7, lambda text: has_token(lexer, name, text))
                self.assertEqual(found, first, name)
                self.assertEqual(shortest_use(lexer, name), found)

    def test_long_texts(self):
        lexer = built(lexing.one_mode(word("x", ("row",) + (A,) * 10), gap("g", B)))
        self.assertEqual(shortest_use(lexer, "x"), "a" * 10)
        chain = [(name, [gap("abcd"[at], ("row",) + (B,) * 9 + (A,), ("go", after))])
                 for at, (name, after) in enumerate(zip("mnop", "nopp"))]
        self.assertEqual(shortest_use(Lexer("ab", chain), "d"), "bbbbbbbbba" * 4)

    def test_most(self):
        for given in lexing.FLAT:
            lexer = built(given)
            many = len(configurations(lexer))
            for name in names(lexer):
                expected = shortest_use(lexer, name)
                self.bounded(lambda most: shortest_use(lexer, name, most=most), many, expected)

    def test_a_result_that_would_be_found_earlier(self):
        self.too_large(lambda: shortest_use(LEXER, "g", most=5))
        self.assertEqual(shortest_use(LEXER, "g", most=6), "b")
        self.too_large(lambda: shortest_use(built(cycles(7, 8)), "x", most=2000))

    def test_most_left_out_is_four_hundred(self):
        self.assertEqual(shortest_use(built(lexing.FOUR_HUNDRED), "y"), "c" * 8)
        self.too_large(lambda: shortest_use(built(lexing.ONE_MORE), "y"))
        self.assertEqual(shortest_use(built(lexing.ONE_MORE), "y", most=401), "c" * 6)

    def test_long_searches(self):
        before = time.process_time()
        lexer = built(cycles(6, 7))
        self.assertEqual(shortest_use(lexer, "b", most=2000), "a" * 7 + "b")
        self.assertLess(time.process_time() - before, 5)


class Errors(searching.SearchChecks):

    def test_not_flat_is_first(self):
        self.not_flat(shortest_use, "x")
        self.not_flat(shortest_use, "no")
        self.not_flat(never_used, "", [])
        self.not_flat(never_used, "no", [])

    def test_unknown_rules(self):
        for call in (shortest_use, lambda lexer, name: shortest_use(lexer, name, most=1),
                     lambda lexer, name: never_used(lexer, name, []),
                     lambda lexer, name: never_used(lexer, name, configurations(lexer))):
            for name in ("z", "main", "X", "error", "word", " ", "xx", "None"):
                with self.assertRaises(UnknownRule) as held:
                    call(LEXER, name)
                self.assertEqual(held.exception.name, name)
                self.assertIsInstance(held.exception, CutError)

    def test_names_of_rules_of_all_modes_are_known(self):
        lexer = built(lexing.TURNS)
        for name in names(lexer):
            self.assertIs(never_used(lexer, name, []), False)
        with self.assertRaises(UnknownRule):
            never_used(lexer, "one", [])


class NeverUsed(searching.SearchChecks):

    def test_example_of_the_document(self):
        self.assertIs(never_used(LEXER, "", configurations(LEXER)), True)

    def test_exactly_the_names_that_are_not_used(self):
        for given in lexing.FLAT + [SHADOWED, UNREACHED, OUTRUN]:
            lexer = built(given)
            value = configurations(lexer)
            for name in names(lexer):
                if shortest_use(lexer, name) is None:
                    self.holds(lambda given: never_used(lexer, name, given), value)
                    self.needs_all(lambda given: never_used(lexer, name, given), value)
                else:
                    self.assertIs(never_used(lexer, name, value), False)

    def test_a_use_behind_an_unreachable_configuration(self):
        lexer = built(UNREACHED)
        value = configurations(lexer)
        self.assertIs(never_used(lexer, "y", value), True)
        # In the mode n, y is used by b; z leads back.
        self.assertIs(never_used(lexer, "y", value + [(1, "start", 0, ())]), False)
        self.assertIs(never_used(lexer, "y", value + [(1, "inside", 1, ())]), True)
        self.assertIs(never_used(lexer, "z", value + [(1, "start", 0, ())]), False)

    def test_further_configurations(self):
        value = configurations(LEXER)
        for further in ((0, "inside", 4, ()), (0, "inside", 5, ((0, 3),)), (0, "start", 0, ((0, 0),)),
                        (0, "inside", 0, ()), (0, "inside", 0, ((0, 0),))):
            self.assertNotIn(further, value)
            self.assertIs(never_used(LEXER, "", value + [further]), True)

    def test_further_configurations_need_their_successors(self):
        lexer = Lexer("ab", [("m", [word("x", AB)]), ("n", [word("y", ("row", A, B)), gap("z", ("row", A, B))])])
        further = searching.closure((1, "start", 0, ()), "ab", lambda *step: [
            after for _, after in lexing.ways(lexer, *step)])
        self.assertEqual(len(further), 3)
        self.assertIs(never_used(lexer, "z", [FIRST]), True)
        self.holds(lambda given: never_used(lexer, "z", given), [FIRST] + further)
        self.assertIs(never_used(lexer, "y", [FIRST] + further), False)
        for at in range(len(further)):
            if further[at] != (1, "start", 0, ()):
                self.assertIs(never_used(lexer, "z", [FIRST] + further[:at] + further[at + 1:]), False)

    def test_wrong_elements(self):
        value = configurations(LEXER)
        self.refuses(lambda given: never_used(LEXER, "", given), value, [
            (0, "start", 1, ()), (1, "start", 0, ()), (-1, "start", 0, ()), (0, "inside", 6, ()), (0, "inside", -1, ()),
            (False, "start", 0, ()), (0, "start", False, ()), (0, "inside", True, ()), (0, "word", 0, ()),
            (0, "gap", 0, ()), (0, "", 0, ()), (0, None, 0, ()), (0, 0, 0, ()), (0, ["start"], 0, ()),
            ("0", "start", 0, ()), (0, "start", "0", ()), (None, "start", 0, ()), (0, "start", None, ()),
            ("main", "start", 0, ()), ([], "inside", [], ()), (0, "start", 0, []), (0, "start", 0, None),
            (0, "start", 0, ""), (0, "start", 0, (0, 1)), (0, "start", 0, ([0, 1],)), (0, "start", 0, [(0, 1)]),
            (0, "start", 0, ((0, 1), (0, 1))), (0, "start", 0, ((0, 3), (0, 1))), (0, "start", 0, ((0, 2),)),
            (0, "start", 0, ((0, 4),)), (0, "start", 0, ((0, 6),)), (0, "start", 0, ((1, 1),)),
            (0, "start", 0, ((-1, 1),)), (0, "start", 0, ((0, -3),)), (0, "start", 0, ((0, True),)),
            (0, "start", 0, ((False, 1),)), (0, "start", 0, ((0, 1, 1),)), (0, "start", 0, ((0,),)),
            (0, "start", 0, ((0, "1"),)), (0, "start", 0, (("0", 1),)), (0, "start", 0, ((0, None),)),
            (0, "start", 0, ((0, (1,)),)), (0, "start", 0, ((0, 1), None)), (0, "start"), ("start", 0, 0, ()),
            [0, "start", 0, ()], (0, "start", 0, (), 0), (10 ** 40, "start", 0, ()), (0, "inside", 10 ** 40, ())])

    def test_a_start_in_another_state(self):
        # Were this a configuration, the value would be closed.
        for state in (1, 2):
            self.assertIs(never_used(built(SHADOWED), "a", [FIRST, (0, "start", state, ())]), False)
            self.assertIs(never_used(built(SHADOWED), "a", [FIRST, (0, "inside", state, ())]), True)

    def test_bools_in_place_of_integers(self):
        lexer = built(lexing.NO_RULES)
        for broken in ((False, "start", 0, ()), (0, "start", False, ()), (False, "start", False, ())):
            self.assertIs(never_used(built(SHADOWED), "a", [broken]), False)
            self.assertIs(never_used(lexer, "", [broken]), False)
        self.assertIs(never_used(built(SHADOWED), "a", [FIRST]), True)
        self.assertIs(never_used(built(SHADOWED), "a", (FIRST, FIRST)), True)

    def test_large_values(self):
        before = time.process_time()
        many = [FIRST] * 20000
        self.assertIs(never_used(built(SHADOWED), "a", many), True)
        self.assertIs(never_used(LEXER, "", configurations(LEXER) * 2000), True)
        self.assertIs(never_used(LEXER, "", many), False)
        self.assertIs(never_used(LEXER, "", list(range(90000))), False)
        deep = ()
        for _ in range(29):
            deep = (deep,)
        self.assertIs(never_used(LEXER, "", [FIRST, deep]), False)
        self.assertIs(never_used(LEXER, "", [(0, "start", 0, deep)]), False)
        self.assertIs(never_used(LEXER, "", [(0, "start", 0, tuple((0, 1) for _ in range(30000)))]), False)
        self.assertLess(time.process_time() - before, 5)

    def test_long_certificates(self):
        given = cycles(5, 6)
        lexer = Lexer("ab", [("main", given[1][0][1] + [gap("none", ("row", A, lexing.NOTHING))])])
        value = configurations(lexer, most=2000)
        self.assertEqual(len(value), 993)
        before = time.process_time()
        self.assertIs(never_used(lexer, "none", value), True)
        self.assertIs(never_used(lexer, "none", value[1:]), False)
        self.assertIs(never_used(lexer, "x", value), False)
        self.assertLess(time.process_time() - before, 5)

    def test_configurations_of_another_lexer(self):
        other = configurations(built(lexing.ONLY_LONG))
        self.assertIs(never_used(LEXER, "", other), False)
        self.assertIs(never_used(built(lexing.ONLY_LONG), "y", configurations(LEXER)), False)
        three = built(lexing.one_mode(word("x", ABC), gap("c", C), alphabet="abc"))
        self.assertIs(never_used(three, "c", [FIRST]), True)
