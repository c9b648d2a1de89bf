"""Shortest texts with an error that another splitting avoids, and certificates that there are none."""

from cutscribe.configurations import (
    check_flat, entry_at, explored, FIRST, following, is_closed, is_configuration, is_place, mode_behind)
from cutscribe.tokens import ERROR

FIRST_ITEM = (FIRST, "none", 0, "start", 0)


def shortest_avoidable(lexer, *, most=400):
    """Return the shortest text with an avoidable error, or None if there is none."""
    shortest, _ = _explored(lexer, most)
    return shortest


def avoidable_items(lexer, *, most=400):
    """Return the ascending list of all reachable items."""
    _, texts = _explored(lexer, most)
    return sorted(texts)


def never_avoidable(lexer, value):
    """Return whether a value, any value, is a certificate that no text has an avoidable error."""
    check_flat(lexer)
    return is_closed(
        lexer.alphabet, FIRST_ITEM,
        lambda here, character: _ways(lexer, here, character),
        lambda part: _is_item(lexer, part) and not _is_avoided(part), value)


def _explored(lexer, most):
    check_flat(lexer)
    return explored(lexer.alphabet, FIRST_ITEM, lambda here, character: _ways(lexer, here, character), most)


def _ways(lexer, item, character):
    """Return whether a character leads to an avoidable error, and the items to which it leads."""
    configuration, seen, mode, _, state = item
    moves = _moves(lexer, mode, state, character)
    found = []
    for event, after in following(lexer, configuration, character):
        seen_now = "error" if event == ERROR[:2] else seen
        found.extend([(after, seen_now) + move for move in moves])
    return any([_is_avoided(after) for after in found]), found


def _moves(lexer, mode, state, character):
    """Return where a piece of a splitting may be, or where the next piece may begin, behind a character."""
    part = lexer.modes[mode]
    after = part.steps[state][character]
    entry = entry_at(part, after)
    moves = []
    if part.live[after]:
        moves.append((mode, "inside", after))
    if entry != ERROR:
        moves.append((mode_behind(entry, mode), "start", 0))
    return moves


def _is_avoided(item):
    """Return whether the tokens of a text end here with an error, and a splitting of the text without one."""
    configuration, seen, _, phase, _ = item
    return seen == "error" and configuration[1] == "start" and phase == "start"


def _is_item(lexer, value):
    """Return whether a value, any value, is an item of the lexer."""
    if not isinstance(value, tuple) or len(value) != 5:
        return False
    configuration, seen, mode, phase, state = value
    if not is_configuration(lexer, configuration) or seen not in ("none", "error"):
        return False
    return is_place(lexer, mode, phase, state, ("inside",))
