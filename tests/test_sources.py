"""Points 44 to 46: the shortest text that yields words, positions, and certificates that there is none."""

import itertools
import time

from cutscribe.errors import CutError, InvalidWord, UnknownRule
from cutscribe.lexers import Lexer
from cutscribe.sources import never_source, shortest_source, source_positions, source_successors
from cutscribe.tokens import tokenize
from tests import lexing, reference, searching
from tests.lexing import A, AB, B, C, built, cycles, gap, word
from tests.searching import FIRST_POSITION, is_source, position_ways

LEXER = built(lexing.DOCUMENT)
X, Y = ("x", "a"), ("y", "aab")
# Words of one or two letters that merge unless a space or a line of dashes stands between them.
SPACED = ("ab -", [("main", [
    word("name", ("again", AB, 1, 2)), gap("space", ("set", " ")), gap("dash", ("again", ("set", "-"), 2, None)),
    word("sum", ("set", "-"))])])
# Only in the mode q there is a gap, and only the word z leads there.
MODES = ("abc", [
    ("p", [word("x", A), word("z", B, ("go", "q")), word("xx", ("row", A, A))]),
    ("q", [word("y", A), gap("g", C, ("go", "p")), word("yy", ("row", A, A, A))])])
# The gap ends where its mode turns: what follows is read in another mode.
TURNING_GAPS = ("ab",
                [("p", [gap("g", B, ("go", "q")), word("x", A)]), ("q", [gap("h", A, ("go", "p")), word("y", B)])])
GIVEN = [
    (lexing.DOCUMENT, [[], [X], [Y], [X, Y], [Y, X], [X, X], [X] * 8, [("x", "aa")], [("x", "b")], [("y", "ab")],
                       [X, X, Y, X, X]]),
    (lexing.UNLIMITED,
     [[], [X], [X, X], [("y", "aaab")], [X, ("y", "ab")], [("y", "ab"), X], [("y", "ab"), ("y", "aab")]]),
    (lexing.ONLY_LONG, [[], [("x", "abab")], [("x", "abab"), ("y", "bb"), ("x", "abab")], [("y", "bb"), ("y", "bb")]]),
    (lexing.KEY_FIRST, [[], [("key", "ab")], [("key", "ab"), ("key", "ab")], [("name", "ab")], [("name", "a")],
                        [("name", "aba"), ("key", "ab")], [("name", "aba"), ("name", "bb"), ("name", "b")]]),
    (lexing.NAME_FIRST, [[("key", "ab")], [("name", "ab")], [("name", "abb"), ("name", "a")]]),
    (lexing.WITH_NOT, [[], [("n", "ab")], [("n", "ab"), ("n", "aab")], [("n", "aba")], [("n", "b")]]),
    (lexing.EVERYTHING, [[], [("all", "a")], [("all", "abba")], [("all", "a"), ("all", "b")]]),
    (lexing.TURNS, [[], [("x", "ab"), ("z", "b")], [("y", "a"), ("x", "ab")], [("x", "ab"), ("u", "aaab")],
                    [("x", "ab"), ("v", "aa"), ("z", "b"), ("y", "aa")], [("z", "b")], [("y", "aa"), ("y", "a")]]),
    (lexing.CROSSING,
     [[], [("y", "a")], [("m", "abb")], [("l", "aaaab")], [("y", "a"), ("y", "a")], [("m", "abb"), ("y", "a")]]),
    (lexing.MEETING, [[], [("t", "a")], [("t", "a"), ("t", "a")], [("t", "b")]]),
    (SPACED, [[], [("name", "a")], [("name", "a"), ("name", "b")], [("name", "ab"), ("name", "b")], [("sum", "-")],
              [("sum", "-"), ("sum", "-")], [("name", "ab"), ("sum", "-"), ("name", "b")], [("name", "aba")]]),
    (MODES, [[], [("y", "a")], [("z", "b"), ("x", "a")], [("x", "a"), ("x", "a")], [("z", "b"), ("y", "a"), ("y", "a")],
             [("z", "b"), ("z", "b")], [("y", "a"), ("z", "b")]]),
    (TURNING_GAPS,
     [[], [("x", "a"), ("y", "b")], [("y", "b"), ("x", "a")], [("x", "a"), ("x", "a")], [("y", "b"), ("y", "b")]]),
    (lexing.NO_RULES, [[]]),
    (lexing.NEVER_MATCHED, [[], [("x", "a")], [("y", "a")], [("x", "b"), ("y", "a")]])]
CASES = [(built(given), words) for given, lists in GIVEN for words in lists]


def closure(lexer, words):
    return searching.closure(FIRST_POSITION, lexer.alphabet, lambda *step: position_ways(lexer, words, *step))


def has_source(lexer, words):
    return any(position[0] == len(words) and position[2] == "start" for position in closure(lexer, words))


class ShortestSource(searching.SearchChecks):

    def test_example_of_the_document(self):
        self.assertEqual(shortest_source(LEXER, [X, Y]), "aaab")

    def test_by_hand(self):
        self.assertEqual(shortest_source(LEXER, []), "")
        self.assertEqual(shortest_source(LEXER, ()), "")
        self.assertEqual(shortest_source(LEXER, (X, X)), "aa")
        self.assertEqual(shortest_source(LEXER, [Y, X, X, Y]), "aabaaaab")
        self.assertEqual(shortest_source(built(lexing.ONLY_LONG), [("y", "bb"), ("x", "abab")]), "bbabab")
        spaced = built(SPACED)
        self.assertEqual(shortest_source(spaced, [("name", "a"), ("name", "b")]), "a b")
        self.assertEqual(shortest_source(spaced, [("name", "ab"), ("name", "b")]), "abb")
        self.assertEqual(shortest_source(spaced, [("sum", "-"), ("sum", "-")]), "- -")
        self.assertEqual(shortest_source(spaced, [("name", "a"), ("sum", "-"), ("name", "a")]), "a-a")
        modes = built(MODES)
        self.assertEqual(shortest_source(modes, [("z", "b"), ("y", "a"), ("x", "a")]), "baca")
        self.assertEqual(shortest_source(modes, [("z", "b"), ("z", "b")]), "bcb")
        self.assertEqual(shortest_source(built(TURNING_GAPS), [("x", "a"), ("x", "a"), ("y", "b")]), "aabb")

    def test_none(self):
        for words in ([("x", "aa")], [("x", "b")], [("y", "ab")], [X, ("y", "b")]):
            self.assertIsNone(shortest_source(LEXER, words))
        self.assertIsNone(shortest_source(built(lexing.EVERYTHING), [("all", "a"), ("all", "b")]))
        self.assertIsNone(shortest_source(built(lexing.KEY_FIRST), [("name", "ab")]))
        self.assertIsNone(shortest_source(built(lexing.NAME_FIRST), [("key", "ab")]))
        self.assertIsNone(shortest_source(built(SPACED), [("name", "aba")]))
        self.assertIsNone(shortest_source(built(MODES), [("y", "a")]))
        self.assertIsNone(shortest_source(built(lexing.NEVER_MATCHED), [("x", "a")]))

    def test_words_that_need_something_between_them_at_the_end_of_a_token(self):
        # A single a is pending until b follows: so x can stand in front of b only behind a gap, and there is none.
        self.assertIsNone(shortest_source(built(lexing.one_mode(word("x", A), word("y", ("row", A, B)), word("z", B))),
                                          [("x", "a"), ("z", "b")]))
        self.assertEqual(shortest_source(built(lexing.one_mode(
            word("x", A), word("y", ("row", A, B)), word("z", B), gap("g", C), alphabet="abc")),
            [("x", "a"), ("z", "b")]), "acb")

    def test_texts_that_lead_to_the_same_place_are_taken_in_their_order(self):
        self.assertEqual(shortest_source(built(lexing.MEETING), [("t", "a")]), "aaa")

    def test_the_order_of_the_alphabet_decides(self):
        rules = [("m", [word("x", ("again", A, 1, None)), gap("g", ("set", "-")), gap("h", ("set", " "))])]
        self.assertEqual(shortest_source(Lexer("a- ", rules), [X, X]), "a-a")
        self.assertEqual(shortest_source(Lexer("a -", rules), [X, X]), "a a")

    def test_all_texts(self):
        for lexer, words in CASES:
            found = shortest_source(lexer, words)
            most = 9 if len(lexer.alphabet) == 2 else 5
            first = searching.first_text(lexer, most, lambda text: is_source(lexer, words, text))
            if found is None or len(found) <= most:
                self.assertEqual(found, first, words)
            else:
                self.assertIsNone(first)
                self.assertTrue(is_source(lexer, words, found))
            self.assertEqual(found is not None, has_source(lexer, words))

    def test_words_of_all_texts(self):
        """The words of a text without errors have a source, which is no longer than the text."""
        for given in lexing.FLAT + [SPACED, MODES, TURNING_GAPS]:
            lexer = built(given)
            for text in reference.texts(lexer.alphabet, 6 if len(lexer.alphabet) == 2 else 4)[::3]:
                tokens = tokenize(lexer, text)
                if all(token[3] != "error" for token in tokens):
                    words = searching.words_of(text, tokens)[:8]
                    found = shortest_source(lexer, words, most=2000)
                    self.assertTrue(is_source(lexer, words, found))
                    self.assertLessEqual(len(found), len(text))

    def test_eight_words_and_twenty_four_characters(self):
        self.assertEqual(shortest_source(LEXER, [Y] * 8), "aab" * 8)
        self.assertEqual(shortest_source(LEXER, tuple([X] * 8)), "a" * 8)
        lexer = built(lexing.UNLIMITED)
        self.assertEqual(shortest_source(lexer, [("y", "a" * 23 + "b")]), "a" * 23 + "b")
        self.assertEqual(shortest_source(lexer, [X, ("y", "a" * 22 + "b")]), None)
        self.assertEqual(shortest_source(lexer, [("y", "ab")] * 7 + [("y", "a" * 9 + "b")]), "ab" * 7 + "a" * 9 + "b")
        spaced = built(SPACED)
        self.assertEqual(shortest_source(spaced, [("name", "a")] * 8), "a a a a a a a a")

    def test_the_words_are_not_changed(self):
        words = [X, Y]
        for call in (shortest_source, source_positions, lambda *given: source_successors(*given, FIRST_POSITION, "a"),
                     lambda *given: never_source(*given, [FIRST_POSITION])):
            first = call(LEXER, words)
            self.assertEqual(words, [X, Y])
            self.assertEqual(call(LEXER, tuple(words)), first)
            self.assertEqual(call(LEXER, words), first)


class SourceSuccessors(searching.SearchChecks):

    def steps(self, given, words, position, character, expected):
        lexer = built(given)
        self.new_list(lambda: source_successors(lexer, words, position, character), expected)

    def test_example_of_the_document(self):
        self.steps(lexing.DOCUMENT, [X], FIRST_POSITION, "b", [FIRST_POSITION])

    def test_by_hand(self):
        given = lexing.DOCUMENT
        done = (1, 0, "start", 0, 0, ((0, 1),))
        gapped = (0, 0, "gap", 0, 1, ())
        self.steps(given, [X], FIRST_POSITION, "a", [gapped, done])
        self.steps(given, [Y], FIRST_POSITION, "a", [gapped, (0, 1, "word", 0, 1, ())])
        self.steps(given, [], FIRST_POSITION, "a", [gapped])
        self.steps(given, [X], gapped, "a", [(0, 0, "gap", 0, 3, ())])
        self.steps(given, [X], (0, 0, "gap", 0, 3, ()), "b", [])
        self.steps(given, [X], (0, 0, "gap", 0, 0, ()), "b", [FIRST_POSITION])
        self.steps(given, [X], done, "b", [(1, 0, "start", 0, 0, ())])
        self.steps(given, [X], done, "a", [(1, 0, "gap", 0, 1, ((0, 3),))])
        self.steps(given, [Y], (0, 1, "word", 0, 1, ()), "a", [(0, 2, "word", 0, 3, ())])
        self.steps(given, [Y], (0, 1, "word", 0, 1, ()), "b", [])
        self.steps(given, [Y], (0, 2, "word", 0, 3, ()), "b", [(1, 0, "start", 0, 0, ())])
        self.steps(given, [("y", "aaa")], (0, 2, "word", 0, 3, ()), "a", [])
        self.steps(given, [("x", "aab")], (0, 2, "word", 0, 3, ()), "b", [])
        self.steps(given, [Y], (0, 2, "word", 0, 3, ((0, 3),)), "b", [])

    def test_a_character_that_is_part_of_a_word_and_of_a_gap(self):
        given = lexing.one_mode(word("x", ("row", A, A)), gap("g", A), gap("h", ("row", A, A, A)))
        self.steps(given, [("x", "aa")], FIRST_POSITION, "a", [
            (0, 0, "gap", 0, 1, ()), (0, 0, "start", 0, 0, ((0, 1),)), (0, 1, "word", 0, 1, ())])
        self.steps(given, [("x", "aa")], (0, 0, "gap", 0, 1, ()), "a", [(0, 0, "gap", 0, 3, ())])
        self.steps(given, [("x", "aa")], (0, 1, "word", 0, 1, ()), "a", [(1, 0, "start", 0, 0, ((0, 3),))])

    def test_modes(self):
        self.steps(MODES, [("z", "b")], FIRST_POSITION, "b", [(1, 0, "start", 1, 0, ())])
        self.steps(MODES, [("z", "b")], (1, 0, "start", 1, 0, ()), "c", [(1, 0, "start", 0, 0, ())])
        self.steps(MODES, [("x", "a")], (0, 0, "start", 1, 0, ()), "a", [(0, 0, "gap", 1, 1, ())])
        self.steps(lexing.CROSSING, [], FIRST_POSITION, "a",
                   [(0, 0, "gap", 0, 1, ()), (0, 0, "start", 1, 0, ((0, 1),))])
        self.steps(lexing.CROSSING, [("y", "a")], (0, 0, "start", 1, 0, ((0, 1),)), "a", [
            (0, 0, "gap", 1, 1, ((0, 3),)), (1, 0, "start", 0, 0, ((0, 3), (1, 1)))])

    def test_made_by_hand(self):
        for lexer, words in CASES[::2]:
            for position in self.positions(lexer, words):
                for character in lexer.alphabet:
                    self.assertEqual(source_successors(lexer, words, position, character),
                                     position_ways(lexer, words, position, character), position)

    def positions(self, lexer, words):
        """Positions with up to one pending pair, reachable or not."""
        both = [lexer.automaton(name) for name in lexer.mode_names()]
        pending = [()] + [((mode,
                            state),) for mode in range(len(both)) for state in sorted(lexing.live_states(both[mode]))]
        for done, mode, chosen in itertools.product(range(len(words) + 1), range(len(both)), pending[::2]):
            yield (done, 0, "start", mode, 0, chosen)
            for state in range(len(both[mode][0])):
                yield (done, 0, "gap", mode, state, chosen)
                for offset in range(1, len(words[done][1]) if done < len(words) else 0):
                    yield (done, offset, "word", mode, state, chosen)


class SourcePositions(searching.SearchChecks):

    def test_by_hand(self):
        self.assertEqual(source_positions(LEXER, []), [(0, 0, "gap", 0, 1, ()), (0, 0, "gap", 0, 3, ()),
                                                       FIRST_POSITION])
        self.assertEqual(source_positions(built(lexing.NO_RULES), []), [FIRST_POSITION])
        self.assertEqual(source_positions(LEXER, [("x", "b")]), [
            (0, 0, "gap", 0, 1, ()), (0, 0, "gap", 0, 3, ()), FIRST_POSITION])

    def test_all_that_are_reachable(self):
        for lexer, words in CASES:
            expected = closure(lexer, words)
            self.new_list(lambda: source_positions(lexer, words), expected)
            self.bounded(lambda most: source_positions(lexer, words, most=most), len(expected), expected)
            shortest = shortest_source(lexer, words)
            self.bounded(lambda most: shortest_source(lexer, words, most=most), len(expected), shortest)

    def test_most_left_out_is_four_hundred(self):
        lexer = built(lexing.FOUR_HUNDRED_GAPS)
        self.assertEqual(len(source_positions(lexer, [], most=400)), 400)
        self.assertEqual(len(source_positions(lexer, [])), 400)
        self.assertEqual(shortest_source(lexer, []), "")
        lexer = built(lexing.ONE_MORE_GAP)
        self.assertEqual(len(source_positions(lexer, [], most=401)), 401)
        self.too_large(lambda: source_positions(lexer, []))
        self.too_large(lambda: source_positions(lexer, [], most=400))
        self.too_large(lambda: shortest_source(lexer, []))
        self.assertEqual(shortest_source(lexer, [], most=401), "")

    def test_a_source_that_would_be_found_earlier(self):
        self.too_large(lambda: shortest_source(LEXER, [], most=2))
        self.assertEqual(shortest_source(LEXER, [], most=3), "")

    def test_long_searches(self):
        before = time.process_time()
        lexer = built(cycles(3, 5))
        self.assertEqual(shortest_source(lexer, [("a", "a" * 9 + "b"), ("b", "a" * 10 + "b")], most=2000),
                         "a" * 9 + "b" + "a" * 10 + "b")
        gaps = Lexer("ab", [("main", [rule[:2] + (False,) + rule[3:] for rule in lexer.rules("main")])])
        self.assertEqual(len(source_positions(gaps, [], most=2000)), 273)
        self.too_large(lambda: shortest_source(built(lexing.FOUR_HUNDRED), [X] * 8, most=1))
        self.assertLess(time.process_time() - before, 5)


class NeverSource(searching.SearchChecks):

    def test_example_of_the_document(self):
        words = [("x", "aa")]
        self.assertIs(never_source(LEXER, words, source_positions(LEXER, words)), True)

    def test_exactly_the_words_without_a_source(self):
        for lexer, words in CASES:
            value = source_positions(lexer, words)
            if has_source(lexer, words):
                self.assertIs(never_source(lexer, words, value), False)
                self.assertIs(never_source(lexer, words, [part for part in value if part[0] < len(words)]), False)
            else:
                self.holds(lambda given: never_source(lexer, words, given), value)
                self.needs_all(lambda given: never_source(lexer, words, given), value)

    def test_an_end_that_nothing_leads_to(self):
        words = [("x", "aa")]
        value = source_positions(LEXER, words)
        self.refuses(lambda given: never_source(LEXER, words, given), value, [
            (1, 0, "start", 0, 0, ()), (1, 0, "start", 0, 0, ((0, 1),)), (1, 0, "gap", 0, 0, ())])
        self.assertIs(never_source(LEXER, words, value + [(1, 0, "gap", 0, 4, ())]), True)

    def test_further_elements(self):
        words = [("x", "aa")]
        value = source_positions(LEXER, words)
        for further in ((0, 0, "gap", 0, 0, ()), (0, 1, "word", 0, 4, ()), (0, 1, "word", 0, 5, ((0, 1),)),
                        (0, 0, "start", 0, 0, ((0, 3),))):
            self.assertIs(never_source(LEXER, words, value + [further]), True, further)
        self.refuses(lambda given: never_source(LEXER, words, given), value, [
            (0, 1, "word", 0, 0, ()), (1, 0, "gap", 0, 1, ()), (0, 0, "gap", 0, 1, ((0, 1),)),
            (0, 0, "start", 0, 0, ((0, 1),))])

    def test_wrong_elements(self):
        words = [("x", "aa"), X]
        value = source_positions(LEXER, words)
        start = (0, 0, "start", 0, 0)
        self.refuses(lambda given: never_source(LEXER, words, given), value, [
            (2, 0, "start", 0, 0, ()), (3, 0, "start", 0, 0, ()), (-1, 0, "start", 0, 0, ()), (3, 0, "gap", 0, 4, ()),
            (0, 1, "start", 0, 0, ()), (0, 0, "start", 0, 4, ()), (0, 0, "start", 1, 0, ()), (0, 1, "gap", 0, 4, ()),
            (0, 0, "word", 0, 4, ()), (0, 2, "word", 0, 4, ()), (0, -1, "word", 0, 4, ()), (1, 1, "word", 0, 4, ()),
            (1, 0, "word", 0, 4, ()), (2, 1, "word", 0, 4, ()), (2, 0, "word", 0, 4, ()), (0, 0, "gap", 0, 6, ()),
            (0, 0, "gap", 0, -2, ()), (0, 0, "gap", 1, 4, ()), (0, 0, "gap", -1, 4, ()), (0, 0, "inside", 0, 4, ()),
            (False, 0, "start", 0, 0, ()), (0, False, "start", 0, 0, ()), (0, 0, "start", False, 0, ()),
            (0, 0, "start", 0, False, ()), (0, True, "word", 0, 4, ()), (True, 0, "gap", 0, 4, ()),
            ("0", 0, "start", 0, 0, ()), (0, None, "start", 0, 0, ()), (0, 0, ["start"], 0, 0, ()),
            (0, 0, None, 0, 0, ()), (0, 0, "start", (), 0, ()), (0, 0, "start", 0, "", ()), list(start) + [()], start,
            start + ((), ()), start + ([],), start + (None,), start + ("",), start + (0,), start + ((0, 3),),
            start + (([0, 3],),), start + ([(0, 3)],), start + (((0, 3), (0, 3)),), start + (((0, 3), (0, 1)),),
            start + (((0, 4),),), start + (((0, 6),),), start + (((1, 3),),), start + (((0, True),),),
            start + (((False, 3),),), start + (((0, 3, 0),),), start + (((0,),),), start + ((None,),),
            start + (((0, "3"),),), (0, "start", 0, ())])
        self.assertIs(never_source(LEXER, words, value), True)

    def test_bools_in_place_of_integers(self):
        lexer = built(lexing.NEVER_MATCHED)
        self.assertIs(never_source(lexer, [X], [FIRST_POSITION]), True)
        for broken in ((False, 0, "start", 0, 0, ()), (0, False, "start", 0, 0, ()), (0, 0, "start", False, 0, ()),
                       (0, 0, "start", 0, False, ())):
            self.assertIs(never_source(lexer, [X], [broken]), False)

    def test_the_empty_sequence_of_words_has_a_source(self):
        for given in lexing.FLAT:
            lexer = built(given)
            self.assertIs(never_source(lexer, [], source_positions(lexer, [])), False)
            self.assertIs(never_source(lexer, (), []), False)

    def test_large_values(self):
        before = time.process_time()
        words = [("x", "aa")]
        value = source_positions(LEXER, words)
        self.assertIs(never_source(LEXER, words, value * 2500), True)
        self.assertIs(never_source(LEXER, words, [FIRST_POSITION] * 14000), False)
        self.assertIs(never_source(LEXER, words, [None] * 100000), False)
        self.assertLess(time.process_time() - before, 5)


class Errors(searching.SearchChecks):

    CALLS = [shortest_source, source_positions, lambda lexer,
             words: source_successors(lexer, words, FIRST_POSITION, "a"),
             lambda lexer, words: shortest_source(lexer, words, most=1),
             lambda lexer, words: source_positions(lexer, words, most=1),
             lambda lexer, words: never_source(lexer, words, []),
             lambda lexer, words: never_source(lexer, words, [FIRST_POSITION])]

    def raises(self, given, words, kind, field, value):
        for call in self.CALLS:
            for passed in (list(words), tuple(words)):
                with self.assertRaises(kind) as held:
                    call(built(given), passed)
                self.assertEqual(getattr(held.exception, field), value)
                self.assertIsInstance(held.exception, CutError)

    def test_not_flat_is_first(self):
        for call in self.CALLS:
            for words in ([], [("w", "a")], [("no", "a")], [("w", "")]):
                self.not_flat(call, words)

    def test_unknown_rules(self):
        for name in ("z", "", "g", "main", "X", "xx", "word"):
            self.raises(lexing.DOCUMENT, [(name, "a")], UnknownRule, "name", name)
            self.raises(lexing.DOCUMENT, [X, (name, "a"), ("zz", "a")], UnknownRule, "name", name)

    def test_word_rules_of_all_modes_are_known(self):
        self.assertIsNone(shortest_source(built(MODES), [("yy", "a")]))
        self.raises(MODES, [("g", "c")], UnknownRule, "name", "g")

    def test_invalid_words(self):
        for text in ("", "c", "aac", "A", "a ", " ", "caa", "a-"):
            self.raises(lexing.DOCUMENT, [("x", text)], InvalidWord, "index", 0)
            self.raises(lexing.DOCUMENT, [X, Y, ("x", text), ("x", "")], InvalidWord, "index", 2)
            self.raises(lexing.DOCUMENT, [X] * 7 + [("y", text)], InvalidWord, "index", 7)

    def test_the_words_in_order_and_each_name_first(self):
        self.raises(lexing.DOCUMENT, [("z", "c")], UnknownRule, "name", "z")
        self.raises(lexing.DOCUMENT, [("g", "")], UnknownRule, "name", "g")
        self.raises(lexing.DOCUMENT, [("x", ""), ("z", "a")], InvalidWord, "index", 0)
        self.raises(lexing.DOCUMENT, [X, ("y", "c"), ("z", "a")], InvalidWord, "index", 1)
        self.raises(lexing.DOCUMENT, [X, ("z", "a"), ("y", "c")], UnknownRule, "name", "z")

    def test_the_words_are_checked_before_the_search(self):
        self.raises(lexing.ONE_MORE, [("x", "d")], InvalidWord, "index", 0)
        self.raises(lexing.ONE_MORE, [("g", "c")], UnknownRule, "name", "g")
