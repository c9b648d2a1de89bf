"""Shortest texts that use a rule, or that have an error, and certificates that there are none."""

from cutscribe.configurations import check_flat, explored, FIRST, following, is_closed, is_configuration
from cutscribe.errors import UnknownRule


def shortest_use(lexer, name, *, most=400):
    """Return the shortest text with a token of the name, "" for error tokens, or None if there is none."""
    _check(lexer, name)
    shortest, _ = explored(lexer.alphabet, FIRST, lambda here, character: _ways(lexer, name, here, character), most)
    return shortest


def never_used(lexer, name, value):
    """Return whether a value, any value, is a certificate that no text has a token of the name."""
    _check(lexer, name)
    return is_closed(
        lexer.alphabet, FIRST,
        lambda here, character: _ways(lexer, name, here, character),
        lambda part: is_configuration(lexer, part), value)


def _check(lexer, name):
    """Raise NotFlat, or UnknownRule if the name is neither that of a rule nor that of error tokens."""
    check_flat(lexer)
    if name != "" and name not in [entry[0] for part in lexer.modes for entry in part.entries]:
        raise UnknownRule(name)


def _ways(lexer, name, configuration, character):
    """Return whether a token of the name ends by a character, and the successors of the configuration by it."""
    found = following(lexer, configuration, character)
    ends = any([event is not None and event[0] == name for event, _ in found])
    return ends, [after for _, after in found]
