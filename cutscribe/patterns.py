"""Patterns: which values are patterns over an alphabet, and which texts they match."""

from cutscribe.errors import InvalidText
from cutscribe.machines import Machine, START

MOST_TUPLES = 20
MOST_WIDTH = 10
MOST_REPEATS = 4


def is_pattern(alphabet, value):
    """Return whether a value, any value, is a pattern over the alphabet."""
    return _is_small_expression(alphabet, value) and _width(value) <= MOST_WIDTH


def matches(alphabet, pattern, text):
    """Return whether the pattern matches the text."""
    check_text(alphabet, text)
    machine = Machine(alphabet, pattern)
    state = START
    for character in text:
        state = machine.step(state, character)
    return machine.accepts(state)


def check_text(alphabet, text):
    """Raise InvalidText with the position of the first character that is not in the alphabet."""
    for position, character in enumerate(text):
        if character not in alphabet:
            raise InvalidText(position)


def _is_small_expression(alphabet, value):
    """Return whether a value is an expression of few enough tuples whose rows and agains have plain parts alone."""
    # The parts are kept in a list, not visited by recursion: what is no pattern may be nested to any depth.
    waiting = [(value, False)]
    tuples = 0
    while waiting:
        part, must_be_plain = waiting.pop()
        tuples += 1
        if tuples > MOST_TUPLES or not _is_well_formed(alphabet, part):
            return False
        if must_be_plain and part[0] in ("all", "not"):
            return False
        plain_below = must_be_plain or part[0] in ("row", "again")
        waiting.extend([(inner, plain_below) for inner in _parts(part)])
    return True


def _is_well_formed(alphabet, value):
    """Return whether a value is an expression as far as can be told without a look at its parts."""
    if not isinstance(value, tuple) or len(value) == 0 or not isinstance(value[0], str):
        return False
    word = value[0]
    if word == "set":
        return len(value) == 2 and _is_selection(alphabet, value[1])
    if word == "not":
        return len(value) == 2
    if word == "again":
        return len(value) == 4 and _is_range(value[2], value[3])
    return word in ("row", "any", "all")


def _is_selection(alphabet, value):
    """Return whether a value is a string of distinct characters of the alphabet, in its order."""
    return isinstance(value, str) and value == "".join([character for character in alphabet if character in value])


def _is_range(low, high):
    if not _is_integer_within(low, 0, MOST_REPEATS):
        return False
    return high is None or _is_integer_within(high, low, MOST_REPEATS)


def _is_integer_within(value, least, most):
    return isinstance(value, int) and not isinstance(value, bool) and least <= value <= most


def _parts(expression):
    """Return the expressions of which an expression is made."""
    if expression[0] == "set":
        return ()
    if expression[0] == "again":
        return (expression[1],)
    return expression[1:]


def _width(expression):
    width = max(1, sum([_width(part) for part in _parts(expression)]))
    if expression[0] != "again":
        return width
    low, high = expression[2], expression[3]
    return width * (low + 1 if high is None else max(1, high))
