"""Documents: texts that are edited, whose tokens are read again only where an edit has touched them."""

from cutscribe.configurations import check_flat, path
from cutscribe.errors import InvalidRange, TooLong
from cutscribe.patterns import check_text
from cutscribe.sources import check_words, is_complete, shortest_from
from cutscribe.tokens import after_token, read_token

MOST_CHARACTERS = 400


class Reading:
    """A token as it was read: its entry, its length, what was scanned for it, and the mode and the stack it began in.

    It has no position, so it stays as it is where an edit moves it.
    """

    def __init__(self, entry, length, scanned, at_end, mode, below):
        self.entry = entry
        self.length = length
        self.scanned = scanned
        self.at_end = at_end
        self.mode = mode
        self.below = below


class Document:
    """A lexer, a text, and the readings of the text's tokens with their starts."""

    def __init__(self, lexer, text=""):
        check_text(lexer.alphabet, text)
        self.lexer = lexer
        self._characters = text
        self._readings, _ = _read(lexer, text, {})

    def __eq__(self, other):
        return isinstance(other, Document) and self.lexer == other.lexer and self._characters == other._characters

    def __len__(self):
        return len(self._readings)

    def text(self):
        """Return the text."""
        return self._characters

    def tokens(self):
        """Return the list of the tokens."""
        return [(reading.entry[0], start, start + reading.length, reading.entry[1])
                for start, reading in self._readings]

    def edit(self, start, stop, text):
        """Replace the characters from start up to stop; return the kept tokens as pairs (old number, new number)."""
        _check_range(start, stop, len(self._characters))
        check_text(self.lexer.alphabet, text)
        return self._replace(start, stop, text)

    def substitute(self, first, last, words, *, most=400):
        """Replace the tokens from first up to last by the shortest text that yields the words, and return this text.

        Return None, and change nothing, if there is no text with which all other tokens stay as they are.
        """
        check_flat(self.lexer)
        _check_range(first, last, len(self._readings))
        check_words(self.lexer, words)
        start, stop = self._start(first), self._start(last)
        mode, _, _, pending = path(self.lexer, self._characters[:start])[-1]
        accepting = _accepting_within(self.lexer, self._characters[stop:])

        def is_end(position):
            if not is_complete(words, position) or any([pair in accepting for pair in position[5]]):
                return False
            return last == len(self._readings) or position[3] == self._readings[last][1].mode
        found = shortest_from(self.lexer, words, (0, 0, "start", mode, 0, pending), is_end, most)
        if found is not None:
            self._replace(start, stop, found)
        return found

    def _start(self, number):
        """Return the position at which the token of a number starts, the end of the text behind the last one."""
        return self._readings[number][0] if number < len(self._readings) else len(self._characters)

    def _replace(self, start, stop, text):
        """Do what edit does, with a range and a text that are known to be right."""
        changed = self._characters[:start] + text + self._characters[stop:]
        if len(changed) > MOST_CHARACTERS:
            raise TooLong(len(changed))
        untouched = self._untouched(start, stop, len(changed) - len(self._characters))
        self._readings, kept = _read(self.lexer, changed, untouched)
        self._characters = changed
        return kept

    def _untouched(self, start, stop, growth):
        """Return a dict that has for the new start of each untouched token its number and its reading."""
        found = {}
        for number, (begin, reading) in enumerate(self._readings):
            reach = begin + reading.scanned + (1 if reading.at_end else 0)
            if stop <= begin:
                found[begin + growth] = (number, reading)
            elif start >= reach:
                found[begin] = (number, reading)
        return found


def _check_range(start, stop, most):
    """Raise InvalidRange for the first of two bounds of a range that is out of place."""
    if not 0 <= start <= most:
        raise InvalidRange(start)
    if not start <= stop <= most:
        raise InvalidRange(stop)


def _read(lexer, text, untouched):
    """Return the readings of a text with their starts, and the pairs of numbers of the tokens that were kept.

    untouched has for starts in the text the numbers and readings of tokens of an earlier text. One that would be
    begun in the same mode and with the same stack as before is not read again, but kept.
    """
    readings, kept = [], []
    mode, below, start = 0, (), 0
    while start < len(text):
        number, reading = untouched.get(start, (None, None))
        if reading is not None and reading.mode == mode and reading.below == below:
            kept.append((number, len(readings)))
        else:
            entry, end, scanned, at_end = read_token(lexer.modes[mode], text, start)
            reading = Reading(entry, end - start, scanned, at_end, mode, below)
        readings.append((start, reading))
        mode, below = after_token(reading.entry, mode, below)
        start += reading.length
    return readings, kept


def _accepting_within(lexer, text):
    """Return a dict with the pairs of a mode and a state from which the text leads through an accepting state."""
    return {(index, state): True for index, part in enumerate(lexer.modes) for state in range(len(part.rows))
            if _accepts_within(part, state, text)}


def _accepts_within(part, state, text):
    for character in text:
        state = part.steps[state][character]
        if part.marks[state] is not None:
            return True
        if not part.live[state]:
            return False
    return False
