"""Shortest texts that yield given words, and certificates that there are none."""

from cutscribe.configurations import (
    check_flat, entry_at, explored, is_below, is_closed, is_pending, is_place, mode_behind, pending_after, with_pair)
from cutscribe.errors import InvalidWord, UnknownRule

FIRST_POSITION = (0, 0, "start", 0, 0, ())


def shortest_source(lexer, words, *, most=400):
    """Return the shortest text without errors whose word tokens are exactly the words, or None if there is none."""
    _check(lexer, words)
    return shortest_from(lexer, words, FIRST_POSITION, lambda position: is_complete(words, position), most)


def source_successors(lexer, words, position, character):
    """Return the ascending list of the successors of a position by a character."""
    _check(lexer, words)
    return _successors(lexer, words, position, character)


def source_positions(lexer, words, *, most=400):
    """Return the ascending list of all reachable positions."""
    _check(lexer, words)
    _, texts = explored(
        lexer.alphabet, FIRST_POSITION,
        lambda here, character: (False, _successors(lexer, words, here, character)), most)
    return sorted(texts)


def never_source(lexer, words, value):
    """Return whether a value, any value, is a certificate that no text yields the words."""
    _check(lexer, words)
    return is_closed(
        lexer.alphabet, FIRST_POSITION,
        lambda here, character: (False, _successors(lexer, words, here, character)),
        lambda part: _is_position(lexer, words, part) and not is_complete(words, part), value)


def check_words(lexer, words):
    """Raise UnknownRule or InvalidWord for the first thing that is wrong with the words."""
    names = [entry[0] for part in lexer.modes for entry in part.entries if entry[1] == "word"]
    for index, (name, text) in enumerate(words):
        if name not in names:
            raise UnknownRule(name)
        if text == "" or not all([character in lexer.alphabet for character in text]):
            raise InvalidWord(index)


def shortest_from(lexer, words, first, is_end, most):
    """Return the shortest text, possibly empty, that leads from a position to one that is an end, or None."""
    def ways(position, character):
        found = _successors(lexer, words, position, character)
        return any([is_end(after) for after in found]), found
    shortest, _ = explored(lexer.alphabet, first, ways, most)
    return "" if is_end(first) else shortest


def is_complete(words, position):
    """Return whether all words are done at a position and no further token has been begun."""
    return position[0] == len(words) and position[2] == "start"


def _check(lexer, words):
    check_flat(lexer)
    check_words(lexer, words)


def _successors(lexer, words, position, character):
    """Return what source_successors returns, of a flat lexer and words that are known to be right."""
    done, offset, phase, mode, state, pending = position
    read_on = pending_after(lexer, pending, character)
    if read_on is None:
        return []
    part = lexer.modes[mode]
    after = part.steps[state][character]
    entry = entry_at(part, after)
    ended = (mode_behind(entry, mode), 0, with_pair(lexer, read_on, mode, after))
    inside = (mode, after, read_on)
    found = []
    if phase in ("start", "gap"):
        if part.live[after]:
            found.append((done, 0, "gap") + inside)
        if entry[1] == "gap":
            found.append((done, 0, "start") + ended)
    if phase in ("start", "word") and done < len(words) and words[done][1][offset] == character:
        name, text = words[done]
        if offset + 1 < len(text) and part.live[after]:
            found.append((done, offset + 1, "word") + inside)
        if offset + 1 == len(text) and entry[0] == name:
            found.append((done + 1, 0, "start") + ended)
    return sorted(found)


def _is_position(lexer, words, value):
    """Return whether a value, any value, is a position of the lexer and the words."""
    if not isinstance(value, tuple) or len(value) != 6:
        return False
    done, offset, phase, mode, state, pending = value
    if not is_below(done, len(words) + 1) or not is_pending(lexer, pending):
        return False
    if not is_place(lexer, mode, phase, state, ("gap", "word")):
        return False
    if phase == "word":
        return done < len(words) and is_below(offset, len(words[done][1])) and offset > 0
    return is_below(offset, 1)
