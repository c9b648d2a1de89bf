"""Points 28 to 30: documents, their tokens, and the tokens that an edit keeps."""

import random
import time
import unittest

from cutscribe.documents import Document
from cutscribe.errors import CutError, InvalidRange, InvalidText, TooLong
from cutscribe.lexers import Lexer
from cutscribe.tokens import scan, tokenize
from tests import lexing, reference
from tests.lexing import A, AB, B, LEAVE, built, gap, word

LEXER = built(lexing.DOCUMENT)


def kept_tokens(lexer, before, start, stop, piece):
    """The pairs of the kept tokens by the words of point 28."""
    after = before[:start] + piece + before[stop:]
    new = {token[1]: (number, told)
           for number, (token, told) in enumerate(zip(tokenize(lexer, after), scan(lexer, after)))}
    found = []
    for number, (token, (mode, stack, scanned, at_end)) in enumerate(zip(tokenize(lexer, before), scan(lexer, before))):
        begin = token[1]
        reach = begin + scanned + (1 if at_end else 0)
        if stop <= begin:
            moved = begin + len(after) - len(before)
        elif start >= reach:
            moved = begin
        else:
            continue
        if moved in new and new[moved][1][:2] == (mode, stack):
            found.append((number, new[moved][0]))
    return found


class Checks(unittest.TestCase):

    def holds(self, document, lexer, text):
        """The document has the lexer and the text, and the tokens of the text; returned lists are new ones."""
        expected = tokenize(lexer, text)
        self.assertEqual(document.text(), text)
        self.assertEqual(document.lexer, lexer)
        found = document.tokens()
        self.assertIs(type(found), list)
        self.assertEqual(found, expected)
        found.append("more")
        found.reverse()
        self.assertEqual(document.tokens(), expected)
        self.assertEqual(len(document), len(expected))
        self.assertTrue(document == Document(lexer, text))
        self.assertFalse(document != Document(lexer, text))

    def edits(self, document, start, stop, piece, expected):
        """The edit keeps the expected tokens, and the document has the new text."""
        before = document.text()
        found = document.edit(start, stop, piece)
        self.assertIs(type(found), list)
        self.assertEqual(found, expected)
        found.append("more")
        self.holds(document, document.lexer, before[:start] + piece + before[stop:])

    def refuses(self, document, arguments, kind, field, value):
        """The edit raises, twice, and changes nothing."""
        before = document.text()
        for _ in range(2):
            with self.assertRaises(kind) as held:
                document.edit(*arguments)
            self.assertEqual(getattr(held.exception, field), value)
            self.assertIs(type(getattr(held.exception, field)), int)
            self.assertIsInstance(held.exception, CutError)
            self.holds(document, document.lexer, before)


class Creation(Checks):

    def test_example_of_the_document(self):
        self.assertEqual(Document(LEXER, "ab").tokens(), [("x", 0, 1, "word"), ("g", 1, 2, "gap")])

    def test_texts(self):
        for given in lexing.ALL:
            lexer = built(given)
            self.holds(Document(lexer), lexer, "")
            for text in reference.texts(given[0], 4):
                self.holds(Document(lexer, text), lexer, text)

    def test_the_longest_text(self):
        for text in ("a" * 400, "aab" * 133 + "b", "ab" * 200):
            self.holds(Document(LEXER, text), LEXER, text)

    def test_invalid_texts(self):
        for text, position in (("c", 0), ("abc", 2), ("abAb", 2), ("aabb ", 4), ("a" * 399 + "c", 399), ("c" * 400, 0)):
            with self.assertRaises(InvalidText) as held:
                Document(LEXER, text)
            self.assertEqual(held.exception.position, position)

    def test_the_lexer(self):
        self.assertEqual(Document(LEXER, "ab").lexer, LEXER)
        self.assertEqual(Document(built(lexing.NESTED)).lexer, built(lexing.NESTED))

    def test_equality(self):
        one = Document(LEXER, "ab")
        self.assertTrue(one == Document(built(lexing.DOCUMENT), "ab"))
        self.assertFalse(one != Document(built(lexing.DOCUMENT), "ab"))
        for other in (Document(LEXER, "ba"), Document(LEXER, "a"), Document(LEXER),
                      Document(built(lexing.WITHOUT_Y), "ab"),
                      "ab", None, LEXER, ["ab"], one.tokens(), (LEXER, "ab")):
            self.assertFalse(one == other)
            self.assertTrue(one != other)
        self.assertFalse(Document(Lexer("ab", [("m", [])])) == Document(Lexer("ba", [("m", [])])))

    def test_equality_is_of_the_present_text(self):
        one, other = Document(LEXER, "aab"), Document(LEXER, "b")
        one.edit(0, 2, "")
        self.assertTrue(one == other)
        one.edit(0, 0, "a")
        self.assertFalse(one == other)


class Edits(Checks):

    def test_example_of_the_document(self):
        document = Document(LEXER, "aaab")
        self.edits(document, 4, 4, "a", [(0, 0), (1, 1)])

    def test_tokens_that_have_scanned_what_is_edited(self):
        # The first x of aaab has scanned aaa, the token y aab.
        for start, stop, piece, expected in (
                (4, 4, "", [(0, 0), (1, 1)]), (3, 4, "b", [(0, 0)]), (3, 4, "a", [(0, 0)]), (3, 3, "", [(0, 0)]),
                (3, 4, "", [(0, 0)]), (2, 3, "a", []), (2, 2, "", []), (1, 2, "a", []), (1, 1, "", [(1, 1)]),
                (1, 1, "a", [(1, 2)]), (0, 0, "", [(0, 0), (1, 1)]), (0, 1, "", [(1, 0)]), (0, 1, "a", [(1, 1)]),
                (0, 0, "b", [(0, 1), (1, 2)]), (0, 0, "a", [(0, 1), (1, 2)]), (0, 4, "aaab", []), (0, 4, "", [])):
            self.edits(Document(LEXER, "aaab"), start, stop, piece, expected)

    def test_tokens_that_have_reached_the_end(self):
        # Each x of aa has reached the end: appending touches both of them.
        self.edits(Document(LEXER, "aa"), 2, 2, "", [])
        self.edits(Document(LEXER, "aa"), 2, 2, "a", [])
        self.edits(Document(LEXER, "aa"), 0, 0, "a", [(0, 1), (1, 2)])
        self.edits(Document(LEXER, "ab"), 2, 2, "a", [(0, 0), (1, 1)])
        self.edits(Document(LEXER, "abb"), 2, 3, "", [(0, 0), (1, 1)])
        # Behind aab nothing is live: no token has reached the end.
        self.edits(Document(LEXER, "aab"), 3, 3, "b", [(0, 0)])

    def test_an_untouched_token_that_no_token_starts_at(self):
        # The token b is swallowed by a word ab or bb.
        given = lexing.one_mode(word("x", A), word("y", ("row", AB, B)), gap("g", B))
        self.edits(Document(built(given), "b"), 0, 0, "a", [])
        self.edits(Document(built(given), "ba"), 0, 0, "b", [(1, 1)])
        self.edits(Document(built(given), "ba"), 0, 0, "a", [(1, 1)])
        self.edits(Document(LEXER, "ab"), 0, 0, "a", [])
        self.edits(Document(LEXER, "bb"), 0, 0, "aa", [(1, 1)])

    def test_an_untouched_token_in_another_mode(self):
        # x leads to q, y and b are there.
        document = Document(built(lexing.CROSSING), "abba")
        self.assertEqual(document.tokens(),
                         [("x", 0, 1, "gap"), ("b", 1, 2, "gap"), ("b", 2, 3, "gap"), ("y", 3, 4, "word")])
        self.edits(document, 0, 1, "", [])
        self.assertEqual(document.tokens(), [("", 0, 1, "error"), ("", 1, 2, "error"), ("x", 2, 3, "gap")])
        self.edits(document, 0, 0, "a", [])
        # The token x has scanned one character more than its own.
        self.edits(document, 1, 1, "b", [(1, 2), (2, 3), (3, 4)])
        self.edits(document, 2, 2, "b", [(0, 0), (1, 1), (2, 3), (3, 4), (4, 5)])

    def test_an_untouched_token_with_another_stack(self):
        # b enters the mode in; a second one behind it enters top again, with a longer stack.
        lexer = built(lexing.NESTED)
        document = Document(lexer, "baca")
        self.assertEqual(scan(lexer, "baca")[1][:2], ("in", ("top",)))
        self.edits(document, 0, 0, "bb", [])
        self.assertEqual(scan(lexer, "bbbaca")[3][:2], ("in", ("top", "in", "top")))
        self.edits(document, 0, 2, "", [])
        # An a in front changes neither the mode nor the stack behind it.
        self.edits(document, 0, 0, "a", [(0, 1), (1, 2), (2, 3), (3, 4)])

    def test_the_same_mode_and_the_same_depth_with_another_stack(self):
        given = ("ab", [
            ("m", [word("x", A, ("enter", "n")), word("y", B, ("go", "o"))]),
            ("o", [word("z", A, ("enter", "n"))]),
            ("n", [word("u", A), word("v", B, LEAVE)])])
        document = Document(built(given), "aaab")
        self.assertEqual(scan(built(given), "aaab")[1][:2], ("n", ("m",)))
        self.edits(document, 0, 0, "b", [])
        self.assertEqual(scan(built(given), "baaab")[2][:2], ("n", ("o",)))

    def test_errors_and_gaps_are_numbered_too(self):
        document = Document(built(lexing.ONLY_LONG), "ababab")
        self.assertEqual([token[0] for token in document.tokens()], ["x", "", ""])
        self.edits(document, 4, 4, "bb", [(0, 0), (1, 2), (2, 3)])
        self.edits(document, 0, 4, "", [(1, 0), (2, 1), (3, 2)])
        self.edits(document, 0, 2, "", [(1, 0), (2, 1)])

    def test_bounds(self):
        document = Document(LEXER)
        self.edits(document, 0, 0, "", [])
        self.edits(document, 0, 0, "aab", [])
        self.edits(document, 3, 3, "b", [(0, 0)])
        self.edits(document, 0, 4, "", [])
        self.edits(document, 0, 0, "ab" * 200, [])
        self.edits(document, 400, 400, "", [(number, number) for number in range(400)])
        self.edits(document, 0, 400, "b", [])

    def test_all_small_edits(self):
        for given in lexing.ALL:
            lexer = built(given)
            texts = reference.texts(given[0], 4 if len(given[0]) == 2 else 3)
            pieces = reference.texts(given[0], 1) + [given[0][1] + given[0][0]]
            for before in texts[::2]:
                for start in range(len(before) + 1):
                    for stop in range(start, len(before) + 1):
                        for piece in pieces:
                            document = Document(lexer, before)
                            expected = kept_tokens(lexer, before, start, stop, piece)
                            self.assertEqual(document.edit(start, stop, piece), expected)
                            after = before[:start] + piece + before[stop:]
                            self.assertEqual(document.tokens(), tokenize(lexer, after))

    def test_many_edits_of_one_document(self):
        chance = random.Random(7)
        for given in lexing.ALL:
            lexer = built(given)
            document = Document(lexer, "".join(chance.choice(given[0]) for _ in range(20)))
            for _ in range(60):
                before = document.text()
                start = chance.randint(0, len(before))
                stop = chance.randint(start, min(len(before), start + 4))
                piece = "".join(chance.choice(given[0]) for _ in range(chance.randint(0, 5)))
                expected = kept_tokens(lexer, before, start, stop, piece)
                self.edits(document, start, stop, piece, expected)

    def test_kept_tokens_are_as_before(self):
        for given in lexing.ALL:
            lexer = built(given)
            for before in reference.texts(given[0], 4)[::3]:
                for start in range(len(before) + 1):
                    document = Document(lexer, before)
                    old, told = document.tokens(), scan(lexer, before)
                    pairs = document.edit(start, start, given[0][0])
                    new, now = document.tokens(), scan(lexer, document.text())
                    self.assertEqual(pairs, sorted(pairs))
                    for one, other in pairs:
                        self.assertEqual((old[one][0], old[one][3]), (new[other][0], new[other][3]))
                        self.assertEqual(old[one][2] - old[one][1], new[other][2] - new[other][1])
                        self.assertEqual(told[one], now[other])

    def test_documents_are_independent(self):
        one, other = Document(LEXER, "aab"), Document(LEXER, "aab")
        one.edit(0, 3, "b")
        self.holds(other, LEXER, "aab")
        self.holds(one, LEXER, "b")
        self.assertEqual(LEXER, built(lexing.DOCUMENT))

    def test_three_hundred_edits_of_the_longest_text(self):
        """Each call comes back soon, also if each token has scanned the whole text behind it."""
        for given in (lexing.UNLIMITED, lexing.NESTED, lexing.LEAVING):
            lexer = built(given)
            document = Document(lexer, "a" * 400)
            before = time.process_time()
            for turn in range(300):
                document.edit(turn, turn + 1, "ab"[turn % 2])
            self.assertLess(time.process_time() - before, 10)
            self.holds(document, lexer, document.text())


class EditErrors(Checks):

    def test_ranges(self):
        for text in ("", "a", "aaab"):
            document = Document(LEXER, text)
            length = len(text)
            for start in (-1, -length - 1, length + 1, 10 ** 30, -10 ** 30):
                for stop in (start, 0, length, start + 1, -5):
                    self.refuses(document, (start, stop, ""), InvalidRange, "position", start)
            for start in range(length + 1):
                for stop in (start - 1, -1, length + 1, 10 ** 30):
                    if not start <= stop <= length:
                        self.refuses(document, (start, stop, "a"), InvalidRange, "position", stop)

    def test_texts(self):
        document = Document(LEXER, "aaab")
        for piece, position in (("c", 0), ("abc", 2), (" ", 0), ("aB", 1), ("a" * 400 + "c", 400)):
            self.refuses(document, (1, 2, piece), InvalidText, "position", position)

    def test_too_long_texts(self):
        document = Document(LEXER, "ab" * 200)
        self.refuses(document, (0, 0, "a"), TooLong, "length", 401)
        self.refuses(document, (400, 400, "b" * 400), TooLong, "length", 800)
        self.refuses(document, (0, 1, "aa"), TooLong, "length", 401)
        self.edits(document, 0, 1, "b", kept_tokens(LEXER, "ab" * 200, 0, 1, "b"))
        self.edits(document, 0, 2, "a", kept_tokens(LEXER, document.text(), 0, 2, "a"))
        self.edits(document, 399, 399, "a", kept_tokens(LEXER, document.text(), 399, 399, "a"))
        self.refuses(document, (200, 200, "a"), TooLong, "length", 401)

    def test_two_errors_at_once(self):
        document = Document(LEXER, "aaab")
        self.refuses(document, (5, 6, "c"), InvalidRange, "position", 5)
        self.refuses(document, (-1, -2, "c" * 500), InvalidRange, "position", -1)
        self.refuses(document, (3, 2, "c"), InvalidRange, "position", 2)
        self.refuses(document, (3, 5, "a" * 500), InvalidRange, "position", 5)
        self.refuses(document, (0, 4, "a" * 400 + "c"), InvalidText, "position", 400)
        self.refuses(document, (2, 2, "a" * 397), TooLong, "length", 401)

    def test_a_refused_edit_changes_nothing(self):
        document = Document(LEXER, "aaab")
        self.refuses(document, (0, 5, ""), InvalidRange, "position", 5)
        self.edits(document, 4, 4, "a", [(0, 0), (1, 1)])


if __name__ == "__main__":
    unittest.main()
