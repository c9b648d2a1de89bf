"""Minimal automata in standard order."""

from cutscribe.errors import TooLarge
from cutscribe.machines import Machine, START

MOST_STATES = 40


def automaton(alphabet, pattern):
    """Return the minimal automaton in standard order that marks with True the texts that the pattern matches."""
    rows, marks = _explored(alphabet, Machine(alphabet, pattern))
    classes = _classes(rows, marks)
    if max(classes) >= MOST_STATES:
        raise TooLarge("pattern")
    return _merged(rows, marks, classes)


def _explored(alphabet, machine):
    """Return rows and marks of all states that a breadth-first walk of the machine reaches, in the walk's order."""
    numbers = {START: 0}
    states = [START]
    rows = []
    while len(rows) < len(states):
        reached = [machine.step(states[len(rows)], character) for character in alphabet]
        for after in reached:
            if after not in numbers:
                numbers[after] = len(states)
                states.append(after)
        rows.append([numbers[after] for after in reached])
    return rows, [machine.accepts(state) for state in states]


def _classes(rows, marks):
    """Return for each state the number of its class: two states are in one class if no text tells them apart."""
    classes = _numbered(marks)
    while True:
        steps = [tuple([classes[after] for after in row]) for row in rows]
        finer = _numbered(list(zip(classes, steps)))
        if finer == classes:
            return classes
        classes = finer


def _numbered(labels):
    """Return a number for each label: equal ones for equal labels, and new numbers in the order of the list."""
    numbers = {}
    return [numbers.setdefault(label, len(numbers)) for label in labels]


def _merged(rows, marks, classes):
    # The classes are numbered by their first states in a breadth-first walk, and the same walk over the
    # classes meets them in this order: the first text that leads to a class leads to its first state.
    firsts = [classes.index(number) for number in range(max(classes) + 1)]
    small_rows = [tuple([classes[after] for after in rows[state]]) for state in firsts]
    return tuple(small_rows), tuple([marks[state] for state in firsts])
