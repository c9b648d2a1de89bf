"""Points 24 to 27: streams, which return each token at the first moment at which it is certain."""

import unittest

from cutscribe.errors import CutError, Finished, InvalidText
from cutscribe.lexers import Lexer
from cutscribe.streams import Stream
from cutscribe.tokens import scan, tokenize
from tests import lexing, reference
from tests.lexing import A, B, LEAVE, built, gap, word

# No lexer of the tests needs more characters than this to turn a token that may still change into another one.
ENOUGH = 4


def certain(lexer, text):
    """The certain tokens of a text by the words of point 24: every appended text leaves them and those before."""
    versions = [tokenize(lexer, text + more) for more in reference.texts(lexer.alphabet, ENOUGH)]
    found = []
    for number, token in enumerate(tokenize(lexer, text)):
        if any(version[number] != token for version in versions):
            break
        found.append(token)
    return found


def cut(text, length):
    """A text in pieces of a length."""
    return [text[start:start + length] for start in range(0, len(text), length)]


def state(stream):
    return stream.pending(), stream.current_mode(), stream.stack()


def place_behind(lexer, text, many):
    """The current mode and the stack behind so many tokens of a text, told by a character that is read there."""
    tokens = tokenize(lexer, text)
    end = tokens[many - 1][2] if many else 0
    for more in reference.texts(lexer.alphabet, 2)[1:]:
        longer = text[:end] + more
        if tokenize(lexer, longer)[:many] == tokens[:many]:
            return scan(lexer, longer)[many][:2]
    raise AssertionError("no character leaves the tokens as they are")


class Checks(unittest.TestCase):

    def kinds(self, stream):
        self.assertEqual([type(value) for value in state(stream)], [str, str, tuple])

    def read(self, given, pieces):
        """Feed the pieces; check lists, pending text and place behind each; return all tokens, those at the end too."""
        lexer = built(given)
        stream = Stream(lexer)
        self.assertEqual(state(stream), ("", given[1][0][0], ()))
        received, tokens = "", []
        for piece in pieces:
            new = stream.feed(piece)
            self.assertIs(type(new), list)
            received += piece
            tokens += new
            self.assertEqual(stream.pending(), received[tokens[-1][2] if tokens else 0:])
            self.kinds(stream)
        rest = stream.finish()
        self.assertIs(type(rest), list)
        self.assertEqual(stream.pending(), "")
        self.kinds(stream)
        return tokens + rest


class Examples(Checks):

    def test_examples_of_the_document(self):
        stream = Stream(built(lexing.DOCUMENT))
        self.assertEqual(stream.feed("aaa"), [("x", 0, 1, "word")])
        self.assertEqual(stream.pending(), "aa")
        self.assertEqual(stream.finish(), [("x", 1, 2, "word"), ("x", 2, 3, "word")])

    def test_a_new_stream(self):
        for given in lexing.ALL:
            stream = Stream(built(given))
            self.assertEqual(state(stream), ("", given[1][0][0], ()))
            self.assertEqual(stream.feed(""), [])
            self.assertEqual(state(stream), ("", given[1][0][0], ()))
            self.assertEqual(stream.finish(), [])
            self.assertEqual(state(stream), ("", given[1][0][0], ()))


class Pieces(Checks):

    def test_all_short_texts_in_all_pieces(self):
        for given in lexing.ALL:
            lexer = built(given)
            for text in reference.texts(given[0], 4):
                for cuts in range(2 ** max(0, len(text) - 1)):
                    pieces = [""]
                    for at, character in enumerate(text):
                        pieces[-1] += character
                        if (cuts >> at) & 1:
                            pieces.append("")
                    self.assertEqual(self.read(given, pieces), tokenize(lexer, text))

    def test_empty_pieces(self):
        for given in lexing.ALL:
            text = "abaabbab"
            pieces = ["", ""] + [piece for character in text for piece in (character, "", "")]
            self.assertEqual(self.read(given, pieces), tokenize(built(given), text))

    def test_long_texts_in_different_pieces(self):
        for given in lexing.ALL:
            lexer = built(given)
            for text in ("aaabbab" * 57, "abba" * 100, "b" * 400, "aab" * 133, "aaaabbabbb" * 40):
                for length in (1, 2, 3, 7, 50, 399, 400):
                    self.assertEqual(self.read(given, cut(text, length)), tokenize(lexer, text))

    def test_two_thousand_characters(self):
        x = [("x", at, at + 1, "word") for at in range(2000)]
        self.assertEqual(self.read(lexing.UNLIMITED, cut("a" * 2000, 400)), x)
        self.assertEqual(self.read(lexing.UNLIMITED, ["a" * 2000]), x)
        self.assertEqual(self.read(lexing.UNLIMITED, cut("a" * 1999 + "b", 1)), [("y", 0, 2000, "word")])
        self.assertEqual(self.read(lexing.DOCUMENT, cut("aaab" * 500, 3)), [
            token for at in range(0, 2000, 4)
            for token in (("x", at, at + 1, "word"), ("y", at + 1, at + 4, "word"))])
        self.assertEqual(self.read(lexing.EVERYTHING, cut("ab" * 1000, 9)), [("all", 0, 2000, "word")])
        self.assertEqual(self.read(lexing.NO_RULES, ["ab" * 1000]), [("", at, at + 1, "error") for at in range(2000)])

    def test_a_stack_of_two_thousand_names(self):
        given = ("ab", [("m", [word("x", A, ("enter", "n"))]),
                        ("n", [word("y", A, ("enter", "m")), gap("z", B, LEAVE)])])
        stream = Stream(built(given))
        for deep in range(1, 1001):
            stream.feed("a")
        self.assertEqual(stream.stack(), ("m", "n") * 500)
        self.assertEqual(len(stream.feed("a" * 999)), 999)
        self.assertEqual(stream.stack(), ("m", "n") * 999 + ("m",))
        self.assertEqual(stream.feed("b"), [("z", 1999, 2000, "gap")])
        self.assertEqual(stream.stack(), ("m", "n") * 999)
        self.assertEqual(stream.current_mode(), "m")


class Certainty(Checks):

    def test_each_token_at_the_first_moment(self):
        for given in lexing.ALL:
            lexer = built(given)
            for text in reference.texts(given[0], 4 if len(given[0]) == 2 else 3):
                self.check_moments(lexer, text)

    def check_moments(self, lexer, text):
        stream = Stream(lexer)
        found = []
        for end in range(1, len(text) + 1):
            found += stream.feed(text[end - 1])
            self.assertEqual(found, certain(lexer, text[:end]), text[:end])
        self.assertEqual(Stream(lexer).feed(text), certain(lexer, text))

    def test_tokens_that_nothing_can_change_come_at_once(self):
        stream = Stream(built(lexing.WITHOUT_Y))
        self.assertEqual(stream.feed("a"), [("x", 0, 1, "word")])
        self.assertEqual(stream.feed("ba"), [("g", 1, 2, "gap"), ("x", 2, 3, "word")])
        stream = Stream(built(lexing.NO_RULES))
        self.assertEqual(stream.feed("ab"), [("", 0, 1, "error"), ("", 1, 2, "error")])
        self.assertEqual(stream.pending(), "")

    def test_tokens_that_may_become_longer_wait(self):
        stream = Stream(built(lexing.UNLIMITED))
        for many in range(1, 100):
            self.assertEqual(stream.feed("a"), [])
            self.assertEqual(stream.pending(), "a" * many)
        self.assertEqual(stream.feed("b"), [("y", 0, 100, "word")])
        self.assertEqual(stream.feed("b"), [("g", 100, 101, "gap")])

    def test_a_certain_token_behind_one_that_is_not_waits(self):
        stream = Stream(built(lexing.ONLY_LONG))
        self.assertEqual(stream.feed("ab"), [])
        self.assertEqual(stream.feed("a"), [])
        self.assertEqual(stream.feed("a"), [("", 0, 1, "error"), ("", 1, 2, "error"), ("", 2, 3, "error")])
        self.assertEqual(stream.pending(), "a")
        self.assertEqual(stream.feed("bab"), [("x", 3, 7, "word")])
        stream = Stream(built(lexing.DOCUMENT))
        self.assertEqual(stream.feed("aa"), [])
        self.assertEqual(stream.feed("b"), [("y", 0, 3, "word")])
        self.assertEqual(stream.feed("aba"), [("x", 3, 4, "word"), ("g", 4, 5, "gap")])

    def test_positions_count_from_the_beginning_of_the_complete_text(self):
        stream = Stream(built(lexing.DOCUMENT))
        stream.feed("bbb")
        stream.feed("bb")
        self.assertEqual(stream.feed("aab"), [("y", 5, 8, "word")])
        self.assertEqual(stream.feed("aa"), [])
        self.assertEqual(stream.finish(), [("x", 8, 9, "word"), ("x", 9, 10, "word")])


class Places(Checks):

    def test_mode_and_stack_behind_every_piece(self):
        for given in lexing.ALL:
            lexer = built(given)
            for text in reference.texts(given[0], 4):
                stream = Stream(lexer)
                many = 0
                for end, piece in enumerate(text, 1):
                    many += len(stream.feed(piece))
                    self.assertEqual((stream.current_mode(), stream.stack()), place_behind(lexer, text[:end], many))

    def test_mode_and_stack_behind_the_last_returned_token(self):
        stream = Stream(built(lexing.NESTED))
        steps = (("a", "a", "top", ()), ("b", "", "in", ("top",)), ("a", "a", "in", ("top",)),
                 ("b", "", "in", ("top", "in")), ("b", "", "top", ("top", "in", "in")),
                 ("c", "", "in", ("top", "in")), ("c", "c", "in", ("top", "in")), ("b", "", "top", ("top", "in")),
                 ("", "", "top", ("top", "in")))
        for piece, pending, mode, stack in steps:
            stream.feed(piece)
            self.assertEqual(state(stream), (pending, mode, stack))
            self.assertEqual(state(stream), (pending, mode, stack))

    def test_behind_the_end(self):
        for text, mode, stack in (("", "top", ()), ("a", "top", ()), ("b", "in", ("top",)),
                                  ("bab", "in", ("top", "in")), ("bac", "top", ()), ("bc", "top", ()),
                                  ("bcca", "top", ("top",)), ("c", "top", ())):
            stream = Stream(built(lexing.NESTED))
            stream.feed(text)
            stream.finish()
            for _ in range(2):
                self.assertEqual(state(stream), ("", mode, stack))

    def test_leaving_with_an_empty_stack(self):
        stream = Stream(Lexer("ab", [("m", [word("x", A, LEAVE), word("y", B, ("go", "n"))]),
                                     ("n", [gap("z", A, LEAVE)])]))
        for piece, mode in (("a", "m"), ("b", "n"), ("a", "n"), ("b", "n")):
            stream.feed(piece)
            self.assertEqual(state(stream), ("", mode, ()))


class Errors(Checks):

    def rejects(self, stream, piece, position):
        before = state(stream)
        for _ in range(2):
            with self.assertRaises(InvalidText) as held:
                stream.feed(piece)
            self.assertEqual(held.exception.position, position)
            self.assertIsInstance(held.exception, CutError)
            self.assertEqual(state(stream), before)

    def test_an_invalid_piece_changes_nothing(self):
        for given in lexing.ALL:
            stream = Stream(built(given))
            plain = Stream(built(given))
            for piece in ("a", "ab", "", "bba", "aaab"):
                self.rejects(stream, "d", 0)
                self.rejects(stream, "abd", 2)
                self.rejects(stream, piece + "A" + piece, len(piece))
                self.rejects(stream, "ad" * 200, 1)
                self.assertEqual(stream.feed(piece), plain.feed(piece))
                self.assertEqual(state(stream), state(plain))
            self.rejects(stream, "\n", 0)
            self.assertEqual(stream.finish(), plain.finish())

    def finished(self, stream):
        before = state(stream)
        for _ in range(2):
            for call in (stream.finish, lambda: stream.feed("a"), lambda: stream.feed(""), lambda: stream.feed("%")):
                with self.assertRaises(Finished) as held:
                    call()
                self.assertIsInstance(held.exception, CutError)
                self.assertEqual(state(stream), before)

    def test_a_finished_stream(self):
        for given in lexing.ALL:
            for pieces in ((), ("",), ("a",), ("aba", "ab", "b")):
                stream = Stream(built(given))
                for piece in pieces:
                    stream.feed(piece)
                stream.finish()
                self.finished(stream)
                self.finished(stream.copy())


class Copies(Checks):

    def test_a_copy_goes_on_like_the_stream(self):
        for given in lexing.ALL:
            lexer = built(given)
            for text in reference.texts(given[0], 3):
                stream = Stream(lexer)
                stream.feed(text)
                copy = stream.copy()
                self.assertIs(type(copy), Stream)
                self.assertEqual(state(copy), state(stream))
                for piece in ("ab", "", "aab"):
                    self.assertEqual(copy.feed(piece), stream.feed(piece))
                    self.assertEqual(state(copy), state(stream))
                self.assertEqual(copy.finish(), stream.finish())
                self.assertEqual(state(copy), state(stream))

    def test_copies_are_independent(self):
        stream = Stream(built(lexing.NESTED))
        stream.feed("baba")
        before = state(stream)
        copy = stream.copy()
        copy.feed("bbbca")
        self.assertEqual(state(stream), before)
        second = stream.copy()
        stream.feed("cbca")
        self.assertEqual(state(second), before)
        third = second.copy()
        second.finish()
        self.assertEqual(state(third), before)
        self.assertEqual(third.feed("c"), [("t", 3, 4, "word")])
        self.assertNotEqual(state(third), state(second))

    def test_copies_of_copies_and_of_finished_streams(self):
        stream = Stream(built(lexing.DOCUMENT))
        stream.feed("aa")
        copies = [stream]
        for _ in range(5):
            copies.append(copies[-1].copy())
        for one in copies:
            self.assertEqual(one.copy().feed("b"), [("y", 0, 3, "word")])
            finished = one.copy()
            self.assertEqual(finished.finish(), [("x", 0, 1, "word"), ("x", 1, 2, "word")])
            with self.assertRaises(Finished):
                finished.copy().finish()
            with self.assertRaises(Finished):
                finished.copy().copy().feed("b")
            self.assertEqual(state(one), ("aa", "main", ()))
        for one in copies:
            self.assertEqual(one.feed("b"), [("y", 0, 3, "word")])

    def test_a_copy_in_each_moment(self):
        for given in lexing.ALL:
            lexer = built(given)
            text = "aabab" * 8
            stream = Stream(lexer)
            returned = []
            for end in range(len(text)):
                returned += stream.feed(text[end])
                copy = stream.copy()
                rest = copy.feed(text[end + 1:])
                self.assertEqual(returned + rest + copy.finish(), tokenize(lexer, text))

    def test_returned_lists_are_new_ones(self):
        stream = Stream(built(lexing.WITHOUT_Y))
        first = stream.feed("ab")
        copy = stream.copy()
        first.clear()
        self.assertEqual(stream.feed("b"), [("g", 2, 3, "gap")])
        self.assertEqual(copy.feed("a"), [("x", 2, 3, "word")])
        last = stream.finish()
        last.append("more")
        self.assertEqual(copy.finish(), [])


if __name__ == "__main__":
    unittest.main()
