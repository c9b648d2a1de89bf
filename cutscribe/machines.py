"""Patterns as machines that read a text character by character.

A place is a set of a pattern, counted anew in every copy when each again is written out as copies of its part.
So a pattern has no more places than its width. A state is an integer whose bits stand for places: those at which
the characters read so far may have ended. The lowest bit stands for the place before the first character.
"""

START = 1


class Machine:
    """Tells which texts over an alphabet a pattern matches."""

    def __init__(self, alphabet, pattern):
        self._reading = {character: 0 for character in alphabet}
        self._following = [0]
        self._verdict = self._judge(pattern)

    def step(self, state, character):
        """Return the state that the character leads to."""
        reached = 0
        for place, following in enumerate(self._following):
            if (state >> place) & 1:
                reached |= following
        return reached & self._reading[character]

    def accepts(self, state):
        """Return whether the pattern matches the texts that lead to the state."""
        return _holds(self._verdict, state)

    def _judge(self, pattern):
        """Return when a text is matched: ("ends", places) or a word of the pattern with the verdicts of its parts.

        This works because an all or a not never stands inside a row or an again: it always judges the whole text.
        """
        if pattern[0] in ("any", "all", "not"):
            return (pattern[0], [self._judge(part) for part in pattern[1:]])
        empty, first, last = self._piece(pattern)
        self._following[0] |= first
        return ("ends", last | START if empty else last)

    def _piece(self, pattern):
        """Add a plain pattern; return whether it matches the empty text, its first places and its last places."""
        word = pattern[0]
        if word == "set":
            return self._place(pattern[1])
        if word == "any":
            return _choice([self._piece(part) for part in pattern[1:]])
        if word == "row":
            return self._chain([self._piece(part) for part in pattern[1:]])
        return self._chain(self._copies(pattern[1], pattern[2], pattern[3]))

    def _place(self, characters):
        place = 1 << len(self._following)
        self._following.append(0)
        for character in characters:
            self._reading[character] |= place
        return (False, place, place)

    def _copies(self, part, low, high):
        """Return the pieces of an again: the copies that must be there, then those that may be missing."""
        needed = [self._piece(part) for _ in range(low)]
        if high is None:
            return needed + [self._loop(part)]
        spare = [self._piece(part) for _ in range(high - low)]
        return needed + [(True, first, last) for _, first, last in spare]

    def _loop(self, part):
        """Add a copy that may be missing and may be repeated without limit."""
        _, first, last = self._piece(part)
        self._link(last, first)
        return (True, first, last)

    def _chain(self, pieces):
        empty, first, last = True, 0, 0
        for piece_empty, piece_first, piece_last in pieces:
            self._link(last, piece_first)
            first = first | piece_first if empty else first
            last = last | piece_last if piece_empty else piece_last
            empty = empty and piece_empty
        return (empty, first, last)

    def _link(self, before, after):
        for place in range(len(self._following)):
            if (before >> place) & 1:
                self._following[place] |= after


def _choice(pieces):
    empty, first, last = False, 0, 0
    for piece_empty, piece_first, piece_last in pieces:
        empty = empty or piece_empty
        first |= piece_first
        last |= piece_last
    return (empty, first, last)


def _holds(verdict, state):
    word, told = verdict
    if word == "ends":
        return (told & state) != 0
    answers = [_holds(part, state) for part in told]
    if word == "any":
        return any(answers)
    if word == "all":
        return all(answers)
    return not answers[0]
