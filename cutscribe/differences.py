"""Shortest texts that two flat lexers tokenize differently, and certificates that there are none."""

from cutscribe.configurations import (
    check_flat, entry_at, explored, is_ascending, is_closed, is_place, is_state, mode_behind)
from cutscribe.errors import AlphabetMismatch
from cutscribe.tokens import ERROR

FIRST_PAIR = (0, 0, "start", 0, 0, ())


def pair_successors(one, other, pair, character):
    """Return whether the lexers differ here by a character, and the list of the successors by it."""
    _check(one, other)
    return _ways(one, other, pair, character)


def pair_configurations(one, other, *, most=400):
    """Return the ascending list of all reachable pair configurations."""
    _, texts = _explored(one, other, most)
    return sorted(texts)


def shortest_difference(one, other, *, most=400):
    """Return the shortest text that the lexers tokenize differently, or None if there is none."""
    shortest, _ = _explored(one, other, most)
    return shortest


def never_differ(one, other, value):
    """Return whether a value, any value, is a certificate that the lexers tokenize every text equally."""
    _check(one, other)
    return is_closed(
        one.alphabet, FIRST_PAIR,
        lambda here, character: _ways(one, other, here, character),
        lambda part: _is_pair_configuration(one, other, part), value)


def _check(one, other):
    check_flat(one)
    check_flat(other)
    if one.alphabet != other.alphabet:
        raise AlphabetMismatch()


def _explored(one, other, most):
    _check(one, other)
    return explored(one.alphabet, FIRST_PAIR, lambda here, character: _ways(one, other, here, character), most)


def _ways(one, other, pair, character):
    """Return what pair_successors returns, of lexers that are known to be flat and to have the same alphabet."""
    mode1, mode2, phase, state1, state2, pending = pair
    read_on = _pending_after(one, other, pending, character)
    if read_on is None:
        return (False, [])
    part1, part2 = one.modes[mode1], other.modes[mode2]
    after1, after2 = part1.steps[state1][character], part2.steps[state2][character]
    entry1, entry2 = entry_at(part1, after1), entry_at(part2, after2)
    if entry1[:2] != entry2[:2]:
        return (True, [])
    found = []
    ended = read_on
    if part1.live[after1] or part2.live[after2]:
        found.append((mode1, mode2, "inside", after1, after2, read_on))
        ended = tuple(sorted(set(read_on + ((mode1, mode2, after1, after2),))))
    if entry1 != ERROR or phase == "start":
        found.append((mode_behind(entry1, mode1), mode_behind(entry2, mode2), "start", 0, 0, ended))
    return (False, found)


def _pending_after(one, other, pending, character):
    """Return the quadruples behind a character, or None if one automaton of one of them would accept."""
    quadruples = []
    for mode1, mode2, state1, state2 in pending:
        part1, part2 = one.modes[mode1], other.modes[mode2]
        after1, after2 = part1.steps[state1][character], part2.steps[state2][character]
        if part1.marks[after1] is not None or part2.marks[after2] is not None:
            return None
        if part1.live[after1] or part2.live[after2]:
            quadruples.append((mode1, mode2, after1, after2))
    return tuple(sorted(set(quadruples)))


def _is_pair_configuration(one, other, value):
    """Return whether a value, any value, is a pair configuration of the lexers."""
    if not isinstance(value, tuple) or len(value) != 6:
        return False
    mode1, mode2, phase, state1, state2, pending = value
    if not is_place(one, mode1, phase, state1, ("inside",)) or not is_place(other, mode2, phase, state2, ("inside",)):
        return False
    if not isinstance(pending, tuple) or not all([_is_quadruple(one, other, part) for part in pending]):
        return False
    return is_ascending(pending)


def _is_quadruple(one, other, value):
    if not isinstance(value, tuple) or len(value) != 4:
        return False
    mode1, mode2, state1, state2 = value
    if not is_state(one, mode1, state1) or not is_state(other, mode2, state2):
        return False
    return one.modes[mode1].live[state1] or other.modes[mode2].live[state2]
