"""Points 1 to 6: what holds over the whole program, whichever of its parts is asked."""

import copy
import itertools
import random
import unittest

from cutscribe.avoidable import avoidable_items, never_avoidable, shortest_avoidable
from cutscribe.configurations import configurations, path, successors
from cutscribe.differences import never_differ, pair_configurations, pair_successors, shortest_difference
from cutscribe.documents import Document
from cutscribe.lexers import Lexer
from cutscribe.lookahead import lookahead, lookahead_at_most
from cutscribe.notation import format_lexer, format_pattern, parse_lexer, parse_pattern
from cutscribe.patterns import matches
from cutscribe.automata import automaton
from cutscribe.sources import never_source, shortest_source, source_positions, source_successors
from cutscribe.streams import Stream
from cutscribe.tokens import scan, tokenize
from cutscribe.uses import never_used, shortest_use
from cutscribe.workspace import Workspace
from tests import lexing, reference, searching
from tests.lexing import built
from tests.searching import FIRST, FIRST_PAIR, FIRST_POSITION

WORDS = [("x", "a"), ("y", "aab")]


def calls():
    """Every function of the interface that takes a lexer, with what it is passed."""
    lexer, other = built(lexing.DOCUMENT), built(lexing.WITHOUT_Y)
    return [
        (tokenize, (lexer, "aaab")), (scan, (lexer, "aaab")), (successors, (lexer, FIRST, "a")),
        (configurations, (lexer,)),
        (path, (lexer, "aaab")), (shortest_use, (lexer, "y")), (never_used, (lexer, "", configurations(lexer))),
        (pair_successors, (lexer, other, FIRST_PAIR, "a")), (pair_configurations, (lexer, other)),
        (shortest_difference, (lexer, other)), (never_differ, (lexer, lexer, pair_configurations(lexer, lexer))),
        (shortest_source, (lexer, list(WORDS))), (source_successors, (lexer, list(WORDS), FIRST_POSITION, "a")),
        (source_positions, (lexer, list(WORDS))), (never_source, (lexer, list(WORDS), source_positions(lexer, WORDS))),
        (shortest_avoidable, (lexer,)), (avoidable_items, (lexer,)), (never_avoidable, (lexer, avoidable_items(lexer))),
        (lookahead, (lexer,)), (lookahead_at_most, (lexer, 2, [(FIRST, ())])), (format_lexer, (lexer,)),
        (parse_lexer, (format_lexer(lexer),)), (parse_pattern, ("ab", "(not [a])")), (format_pattern, (lexing.AAB,)),
        (matches, ("ab", lexing.AAB, "aab")), (automaton, ("ab", lexing.AAB))]


def spoil(value):
    """Change every list in a returned value."""
    if isinstance(value, list):
        value.append("more")
        value.reverse()
    elif isinstance(value, tuple):
        for part in value:
            spoil(part)


def told(value):
    """A value without the objects that two deep copies do not share."""
    if isinstance(value, Lexer):
        return format_lexer(value)
    if isinstance(value, (list, tuple)):
        return type(value)([told(part) for part in value])
    return value


class Repeated(unittest.TestCase):

    def test_calls_may_be_repeated_and_change_no_argument(self):
        for call, arguments in calls():
            before = told(arguments)
            first = call(*arguments)
            kept = copy.deepcopy(told(first))
            spoil(first)
            self.assertEqual(told(call(*arguments)), kept, call.__name__)
            self.assertEqual(told(arguments), before, call.__name__)

    def test_lists_and_tuples_are_both_sequences(self):
        for call, arguments in calls():
            other = [tuple(part) if isinstance(part, list) else part for part in arguments]
            self.assertEqual(told(call(*other)), told(call(*arguments)), call.__name__)

    def test_lexers_from_lists_and_tuples(self):
        alphabet, modes = lexing.DOCUMENT
        one = Lexer(alphabet, tuple((name, tuple(rules)) for name, rules in modes))
        other = Lexer(alphabet, [[name, [list(rule) for rule in rules]] for name, rules in modes])
        self.assertTrue(one == other == built(lexing.DOCUMENT))

    def test_later_changes_of_an_argument_have_no_effect(self):
        modes = [["main", [list(rule) for rule in lexing.DOCUMENT[1][0][1]]]]
        lexer = Lexer("ab", modes)
        modes[0][1][0][0] = "changed"
        modes[0][1].pop()
        modes.append(["more", []])
        self.assertEqual(lexer, built(lexing.DOCUMENT))
        words = list(WORDS)
        document = Document(lexer, "")
        self.assertEqual(document.substitute(0, 0, words), "aaab")
        words.clear()
        self.assertEqual(document.tokens(), [("x", 0, 1, "word"), ("y", 1, 4, "word")])


class OneTokenization(unittest.TestCase):
    """A text has the same tokens as a whole, in pieces and by edits, in a document of its own and in a workspace."""

    def pieces(self, lexer, text, cuts):
        stream = Stream(lexer)
        found = []
        for start, stop in zip([0] + cuts, cuts + [len(text)]):
            found += stream.feed(text[start:stop])
        return found + stream.finish()

    def test_all_small_texts_in_all_pieces(self):
        for given in lexing.ALL:
            lexer = built(given)
            for text in reference.texts(given[0], 4)[::3]:
                expected = tokenize(lexer, text)
                for many in range(len(text)):
                    for cuts in itertools.combinations(range(1, len(text)), many):
                        self.assertEqual(self.pieces(lexer, text, list(cuts)), expected)

    def test_texts_that_are_edited_and_fed(self):
        chance = random.Random(11)
        for given in lexing.ALL:
            lexer = parse_lexer(format_lexer(built(given)))
            document = Document(lexer)
            workspace = Workspace()
            workspace.define("l", lexer)
            workspace.create("d", "l")
            for _ in range(30):
                text = document.text()
                start = chance.randint(0, len(text))
                stop = chance.randint(start, min(len(text), start + 3))
                piece = "".join(chance.choice(given[0]) for _ in range(chance.randint(0, 4)))
                self.assertEqual(document.edit(start, stop, piece), workspace.edit("d", start, stop, piece))
                text = text[:start] + piece + text[stop:]
                expected = tokenize(lexer, text)
                self.assertEqual(document.tokens(), expected)
                self.assertEqual(workspace.document_of("d").tokens(), expected)
                self.assertEqual(Document(lexer, text).tokens(), expected)
                cuts = sorted(chance.randint(0, len(text)) for _ in range(3))
                self.assertEqual(self.pieces(lexer, text, cuts), expected)
                if text:
                    self.assertEqual((expected[0][1], expected[-1][2]), (0, len(text)))

    def test_undo_gives_the_tokens_of_the_earlier_text(self):
        for given in lexing.ALL:
            lexer = built(given)
            workspace = Workspace()
            workspace.define("l", lexer)
            workspace.create("d", "l", given[0] * 3)
            workspace.edit("d", 1, 3, given[0][0])
            workspace.undo()
            self.assertEqual(workspace.document_of("d").tokens(), tokenize(lexer, given[0] * 3))


class AnswersAndCertificates(unittest.TestCase):
    """There is either a shortest text or a certificate, and the list of a search is one."""

    def test_uses(self):
        for given in lexing.FLAT:
            lexer = built(given)
            value = configurations(lexer)
            for name in [""] + [rule[0] for mode in lexer.mode_names() for rule in lexer.rules(mode)]:
                found = shortest_use(lexer, name)
                self.assertEqual(found is None, never_used(lexer, name, value))
                if found is not None:
                    self.assertIn(name, [token[0] for token in tokenize(lexer, found)])

    def test_differences(self):
        for one, other in itertools.product(lexing.FLAT, repeat=2):
            one, other = built(one), built(other)
            found = shortest_difference(one, other)
            self.assertEqual(found is None, never_differ(one, other, pair_configurations(one, other)))
            if found is not None:
                self.assertNotEqual(tokenize(one, found), tokenize(other, found))
                self.assertEqual(tokenize(one, found[:-1]), tokenize(other, found[:-1]))

    def test_sources(self):
        for given in lexing.FLAT:
            lexer = built(given)
            names = [rule[0] for mode in lexer.mode_names() for rule in lexer.rules(mode) if rule[2]]
            for words in [[]] + [[(name, text)] for name in names for text in ("a", "b", "ab", "aab", "abab")]:
                found = shortest_source(lexer, words)
                self.assertEqual(found is None, never_source(lexer, words, source_positions(lexer, words)))
                self.assertTrue(found is None or searching.is_source(lexer, words, found))
                self.assertEqual(Document(lexer).substitute(0, 0, words), found)

    def test_avoidable_errors(self):
        for given in lexing.FLAT:
            lexer = built(given)
            self.assertEqual(shortest_avoidable(lexer) is None, never_avoidable(lexer, avoidable_items(lexer)))

    def test_paths_go_through_configurations(self):
        for given in lexing.FLAT:
            lexer = built(given)
            value = configurations(lexer)
            for text in reference.texts(given[0], 5):
                self.assertTrue(all(step in value for step in path(lexer, text)))


if __name__ == "__main__":
    unittest.main()
