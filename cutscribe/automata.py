"""Minimal automata in standard order: of one pattern, and of several patterns that read the same text."""

from cutscribe.errors import TooLarge
from cutscribe.machines import Machine, START

MOST_STATES = 40
MOST_TOGETHER = 200


def automaton(alphabet, pattern):
    """Return the minimal automaton in standard order that marks with True the texts that the pattern matches."""
    machine = Machine(alphabet, pattern)
    states, rows = _explored(START, lambda here: [machine.step(here, character) for character in alphabet])
    marks = [machine.accepts(state) for state in states]
    classes = _classes(rows, marks)
    if max(classes) >= MOST_STATES:
        raise TooLarge("pattern")
    return _merged(rows, marks, classes)


def joint_automaton(alphabet, parts):
    """Return the minimal automaton in standard order that tells which of several others is the first to match.

    The parts are automata of patterns. The mark of a text is the index of the first part that marks it with True,
    or None.
    """
    first = tuple([0 for _ in parts])
    states, rows = _explored(first, lambda here: _steps(alphabet, parts, here), MOST_TOGETHER)
    if len(states) > MOST_TOGETHER:
        raise TooLarge("mode")
    marks = [_first_true(parts, together) for together in states]
    return _merged(rows, marks, _classes(rows, marks))


def _steps(alphabet, parts, together):
    """Return for each character the tuple of the next states of the parts."""
    rows = [part[0][state] for part, state in zip(parts, together)]
    return [tuple([row[column] for row in rows]) for column in range(len(alphabet))]


def _first_true(parts, together):
    for index, state in enumerate(together):
        if parts[index][1][state]:
            return index
    return None


def _explored(first, steps, most=None):
    """Return the states that a breadth-first walk reaches and their rows, both in the walk's order.

    The walk is given up, and the rows are not complete, when there are more than most states.
    """
    numbers = {first: 0}
    states = [first]
    rows = []
    while len(rows) < len(states) and (most is None or len(states) <= most):
        following = steps(states[len(rows)])
        for after in following:
            if after not in numbers:
                numbers[after] = len(states)
                states.append(after)
        rows.append([numbers[after] for after in following])
    return states, rows


def _classes(rows, marks):
    """Return for each state the number of its class: two states are in one class if no text tells them apart."""
    classes = _numbered(marks)
    while True:
        steps = [tuple([classes[after] for after in row]) for row in rows]
        finer = _numbered(list(zip(classes, steps)))
        if finer == classes:
            return classes
        classes = finer


def _numbered(labels):
    """Return a number for each label: equal ones for equal labels, and new numbers in the order of the list."""
    numbers = {}
    return [numbers.setdefault(label, len(numbers)) for label in labels]


def _merged(rows, marks, classes):
    # The classes are numbered by their first states in a breadth-first walk, and the same walk over the
    # classes meets them in this order: the first text that leads to a class leads to its first state.
    firsts = [classes.index(number) for number in range(max(classes) + 1)]
    small_rows = [tuple([classes[after] for after in rows[state]]) for state in firsts]
    return tuple(small_rows), tuple([marks[state] for state in firsts])
