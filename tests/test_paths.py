"""Points 34 and 38: the path of a text."""

import unittest

from cutscribe.configurations import configurations, path, successors
from cutscribe.errors import CutError, InvalidText
from cutscribe.tokens import tokenize
from tests import lexing, reference
from tests.lexing import built

FIRST = (0, "start", 0, ())


def names_and_kinds(lexer, text):
    return [(token[0], token[3]) for token in tokenize(lexer, text)]


def all_paths(lexer, text):
    """All paths of a text, each with its events other than None."""
    paths = [([FIRST], [])]
    for character in text:
        paths = [(walked + [after], events + ([] if event is None else [event]))
                 for walked, events in paths for event, after in lexing.ways(lexer, walked[-1], character)]
    return paths


class Checks(unittest.TestCase):

    def check(self, lexer, text):
        """The path has the right length, begins and ends rightly, walks by successors and tells the tokens."""
        walked = path(lexer, text)
        self.assertIs(type(walked), list)
        self.assertEqual(len(walked), len(text) + 1)
        self.assertEqual(walked[0], FIRST)
        self.assertEqual(walked[-1][1], "start")
        events = []
        for before, character, after in zip(walked, text, walked[1:]):
            found = [event for event, reached in successors(lexer, before, character) if reached == after]
            self.assertEqual(len(found), 1)
            events += [event for event in found if event is not None]
        self.assertEqual(events, names_and_kinds(lexer, text))
        ends = [position for position, step in enumerate(walked) if step[1] == "start"]
        self.assertEqual(ends, [0] + [token[2] for token in tokenize(lexer, text)])
        return walked


class Paths(Checks):

    def test_example_of_the_document(self):
        lexer = built(lexing.DOCUMENT)
        self.assertEqual(path(lexer, "ab"), [FIRST, (0, "start", 0, ((0, 1),)), FIRST])

    def test_by_hand(self):
        lexer = built(lexing.DOCUMENT)
        self.assertEqual(path(lexer, "aaab"), [FIRST, (0, "start", 0, ((0, 1),)), (0, "inside", 1, ((0, 3),)),
                                               (0, "inside", 3, ()), FIRST])
        self.assertEqual(path(built(lexing.TURNS), "abab"), [FIRST, (0, "inside", 1, ()), (1, "start", 0, ()),
                                                             (1, "start", 0, ((1, 1),)), FIRST])
        self.assertEqual(path(built(lexing.NO_RULES), "ab"), [FIRST] * 3)

    def test_the_empty_text(self):
        for given in lexing.FLAT:
            self.assertEqual(path(built(given), ""), [FIRST])

    def test_short_texts(self):
        for given in lexing.FLAT:
            lexer = built(given)
            known = configurations(lexer)
            for text in reference.texts(given[0], 6):
                for step in self.check(lexer, text):
                    self.assertIn(step, known)

    def test_it_is_the_only_one_that_ends_at_start(self):
        for given in lexing.FLAT:
            lexer = built(given)
            for text in reference.texts(given[0], 5):
                paths = all_paths(lexer, text)
                self.assertEqual([walked for walked, _ in paths if walked[-1][1] == "start"], [path(lexer, text)])
                for _, events in paths:
                    self.assertEqual(events, names_and_kinds(lexer, text)[:len(events)])

    def test_long_texts(self):
        for given in lexing.FLAT:
            lexer = built(given)
            for text in ("a" * 400, "b" * 400, "aaab" * 100, "aabab" * 80, "a" * 399 + "b", "abba" * 100):
                self.check(lexer, text)

    def test_returned_lists_are_new_ones(self):
        for given in lexing.FLAT:
            lexer = built(given)
            first = path(lexer, "aabab")
            again = path(lexer, "aabab")
            self.assertEqual(first, again)
            first.reverse()
            first.pop()
            self.assertEqual(path(lexer, "aabab"), again)
            self.assertEqual(path(lexer, "")[1:], [])
            self.assertEqual(lexer, built(given))

    def test_characters_that_are_not_in_the_alphabet(self):
        for given in lexing.FLAT:
            lexer = built(given)
            for text, position in (("c", 0), ("ac", 1), ("abcc", 2), ("aaabBa", 4), ("a b", 1), ("a" * 399 + "c", 399)):
                with self.assertRaises(InvalidText) as held:
                    path(lexer, text)
                self.assertEqual(held.exception.position, position)
                self.assertIsInstance(held.exception, CutError)


if __name__ == "__main__":
    unittest.main()
