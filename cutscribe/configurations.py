"""Configurations of flat lexers, which guess where each token ends, their successors, and paths of texts.

Searches and certificates of the other files are built from the second half of this file.
"""

from cutscribe.errors import NotFlat, TooLarge
from cutscribe.tokens import after_token, ERROR, tokenize

FIRST = (0, "start", 0, ())


def successors(lexer, configuration, character):
    """Return the successors of a configuration by a character as pairs (event, configuration)."""
    check_flat(lexer)
    return following(lexer, configuration, character)


def configurations(lexer, *, most=400):
    """Return the ascending list of all reachable configurations."""
    return sorted(configuration_texts(lexer, most))


def path(lexer, text):
    """Return the path of a text that ends in the phase "start"."""
    check_flat(lexer)
    phases = []
    for _, start, end, _ in tokenize(lexer, text):
        phases.extend(["inside"] * (end - start - 1) + ["start"])
    walked = [FIRST]
    for character, phase in zip(text, phases):
        ways = [after for _, after in following(lexer, walked[-1], character)]
        walked.extend([after for after in ways if after[1] == phase])
    return walked


def check_flat(lexer):
    """Raise NotFlat if the lexer is not flat."""
    if not lexer.is_flat():
        raise NotFlat()


def configuration_texts(lexer, most):
    """Return a dict that has for each reachable configuration the shortest text that leads to it."""
    check_flat(lexer)
    _, texts = explored(
        lexer.alphabet, FIRST,
        lambda here, character: (False, [after for _, after in following(lexer, here, character)]), most)
    return texts


def following(lexer, configuration, character):
    """Return what successors returns, of a lexer that is known to be flat."""
    mode, phase, state, pending = configuration
    read_on = pending_after(lexer, pending, character)
    if read_on is None:
        return []
    part = lexer.modes[mode]
    after = part.steps[state][character]
    found = []
    if part.live[after]:
        found.append((None, (mode, "inside", after, read_on)))
    entry = entry_at(part, after)
    if entry != ERROR or phase == "start":
        ended = with_pair(lexer, read_on, mode, after)
        found.append((entry[:2], (mode_behind(entry, mode), "start", 0, ended)))
    return found


def entry_at(part, state):
    """Return the entry of the rule that applies to a token that ends in a state of a mode, ERROR if there is none."""
    return ERROR if part.marks[state] is None else part.entries[part.marks[state]]


def mode_behind(entry, mode):
    """Return the current mode behind a token of a flat lexer with this entry."""
    behind, _ = after_token(entry, mode, ())
    return behind


def pending_after(lexer, pending, character):
    """Return the pending pairs behind a character, or None if one of them would accept."""
    pairs = []
    for mode, state in pending:
        part = lexer.modes[mode]
        after = part.steps[state][character]
        if part.marks[after] is not None:
            return None
        if part.live[after]:
            pairs.append((mode, after))
    return tuple(sorted(set(pairs)))


def with_pair(lexer, pending, mode, state):
    """Return the pending pairs with one more for a token that ends in this state, if its automaton reads on."""
    if not lexer.modes[mode].live[state] or (mode, state) in pending:
        return pending
    return tuple(sorted(pending + ((mode, state),)))


def explored(alphabet, first, ways, most):
    """Search all that is reachable from the first one; raise TooLarge if this has more than most elements.

    ways(here, character) returns a pair: whether this step is one that is looked for, and the list of what it leads
    to. Return the shortest text that ends with such a step, or None, and a dict that has for each element the
    shortest text that leads to it.
    """
    shortest = None
    texts = {first: ""}
    # What has the same shortest text stands in one group: so the groups come in the order of their texts.
    groups = [[first]]
    at = 0
    while at < len(groups):
        group = groups[at]
        at += 1
        for character in alphabet:
            text = texts[group[0]] + character
            steps = [ways(here, character) for here in group]
            if shortest is None and any([ends for ends, _ in steps]):
                shortest = text
            ahead = sorted(set([after for _, afters in steps for after in afters if after not in texts]))
            for after in ahead:
                texts[after] = text
            if len(texts) > most:
                raise TooLarge("search")
            if len(ahead) > 0:
                groups.append(ahead)
    return shortest, texts


def is_closed(alphabet, first, ways, is_one, value):
    """Return whether a value, any value, is a certificate: a sequence of what is_one accepts that has the first one.

    For all of its elements and all characters, ways, as in explored, tells no step that is looked for and leads to
    elements alone.
    """
    if not isinstance(value, (list, tuple)) or not all([is_one(part) for part in value]):
        return False
    held = {part: True for part in value}
    steps = [ways(here, character) for here in held for character in alphabet]
    leaves = any([ends or any([after not in held for after in afters]) for ends, afters in steps])
    return first in held and not leaves


def is_configuration(lexer, value):
    """Return whether a value, any value, is a configuration of the lexer."""
    if not isinstance(value, tuple) or len(value) != 4:
        return False
    mode, phase, state, pending = value
    return is_place(lexer, mode, phase, state, ("inside",)) and is_pending(lexer, pending)


def is_place(lexer, mode, phase, state, inner):
    """Return whether three values are a mode, a phase ("start" or one of the inner ones) and a state in this phase."""
    if not is_state(lexer, mode, state):
        return False
    return phase in inner or (phase == "start" and state == 0)


def is_state(lexer, mode, state):
    """Return whether two values are the index of a mode and a state of its automaton."""
    return is_below(mode, len(lexer.modes)) and is_below(state, len(lexer.modes[mode].rows))


def is_pending(lexer, value):
    """Return whether a value is an ascending tuple of distinct pending pairs."""
    return isinstance(value, tuple) and all([_is_pair(lexer, part) for part in value]) and is_ascending(value)


def is_ascending(found):
    """Return whether a tuple of tuples is in ascending order, each one once."""
    return list(found) == sorted(set(found))


def is_below(value, many):
    """Return whether a value is an integer from 0 on and below many."""
    return isinstance(value, int) and not isinstance(value, bool) and 0 <= value < many


def _is_pair(lexer, value):
    if not isinstance(value, tuple) or len(value) != 2 or not is_state(lexer, value[0], value[1]):
        return False
    return lexer.modes[value[0]].live[value[1]]
