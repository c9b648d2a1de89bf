"""Streams: the tokens of a text that arrives in pieces, each at the first moment at which it is certain."""

from cutscribe.errors import Finished
from cutscribe.patterns import check_text
from cutscribe.tokens import after_token, read_token, stack_names


class Stream:
    """A lexer, the text behind the last returned token, and where the reading stands in front of it."""

    def __init__(self, lexer):
        self._lexer = lexer
        self._rest = ""
        self._position = 0
        self._mode = 0
        self._below = ()
        self._finished = False

    def feed(self, text):
        """Append a piece and return the tokens that have become certain."""
        if self._finished:
            raise Finished()
        check_text(self._lexer.alphabet, text)
        self._rest = self._rest + text
        return self._taken()

    def finish(self):
        """End the input and return all tokens that have not been returned."""
        if self._finished:
            raise Finished()
        self._finished = True
        return self._taken()

    def pending(self):
        """Return the text behind the last returned token."""
        return self._rest

    def current_mode(self):
        """Return the name of the current mode behind the last returned token."""
        return self._lexer.modes[self._mode].name

    def stack(self):
        """Return the names on the stack behind the last returned token, the bottom first."""
        return stack_names(self._lexer, self._below)

    def copy(self):
        """Return an independent stream in the same state."""
        other = Stream(self._lexer)
        other._rest = self._rest
        other._position = self._position
        other._mode = self._mode
        other._below = self._below
        other._finished = self._finished
        return other

    def _taken(self):
        """Take from the text that is left all tokens that are certain; behind the end of the input all are."""
        tokens = []
        start = 0
        while start < len(self._rest):
            entry, end, _, at_end = read_token(self._lexer.modes[self._mode], self._rest, start)
            if at_end and not self._finished:
                break
            tokens.append((entry[0], self._position + start, self._position + end, entry[1]))
            self._mode, self._below = after_token(entry, self._mode, self._below)
            start = end
        self._rest = self._rest[start:]
        self._position += start
        return tokens
