"""Configurations of flat lexers, which guess where each token ends, their successors, and paths of texts."""

from cutscribe.errors import NotFlat, TooLarge
from cutscribe.tokens import tokenize

FIRST = (0, "start", 0, ())


def successors(lexer, configuration, character):
    """Return the successors of a configuration by a character as pairs (event, configuration)."""
    check_flat(lexer)
    return following(lexer, configuration, character)


def configurations(lexer, *, most=400):
    """Return the ascending list of all reachable configurations."""
    check_flat(lexer)
    return sorted(reached(FIRST, lambda configuration: _next_ones(lexer, configuration), most))


def path(lexer, text):
    """Return the path of a text that ends in the phase "start"."""
    check_flat(lexer)
    phases = []
    for _, start, end, _ in tokenize(lexer, text):
        phases.extend(["inside"] * (end - start - 1) + ["start"])
    walked = [FIRST]
    for character, phase in zip(text, phases):
        ways = [after for _, after in following(lexer, walked[-1], character)]
        walked.extend([after for after in ways if after[1] == phase])
    return walked


def check_flat(lexer):
    """Raise NotFlat if the lexer is not flat."""
    if not lexer.is_flat():
        raise NotFlat()


def following(lexer, configuration, character):
    """Return what successors returns, of a lexer that is known to be flat."""
    mode, phase, state, pending = configuration
    read_on = pending_after(lexer, pending, character)
    if read_on is None:
        return []
    part = lexer.modes[mode]
    after = part.steps[state][character]
    found = []
    if part.live[after]:
        found.append((None, (mode, "inside", after, read_on)))
    ended = with_pair(lexer, read_on, mode, after)
    if part.marks[after] is not None:
        name, kind, _, target = part.entries[part.marks[after]]
        found.append(((name, kind), (mode if target is None else target, "start", 0, ended)))
    elif phase == "start":
        found.append((("", "error"), (mode, "start", 0, ended)))
    return found


def pending_after(lexer, pending, character):
    """Return the pending pairs behind a character, or None if one of them would accept."""
    pairs = []
    for mode, state in pending:
        part = lexer.modes[mode]
        after = part.steps[state][character]
        if part.marks[after] is not None:
            return None
        if part.live[after]:
            pairs.append((mode, after))
    return tuple(sorted(set(pairs)))


def with_pair(lexer, pending, mode, state):
    """Return the pending pairs with one more for a token that ends in this state, if its automaton reads on."""
    if not lexer.modes[mode].live[state] or (mode, state) in pending:
        return pending
    return tuple(sorted(pending + ((mode, state),)))


def reached(first, steps, most):
    """Return all that is reached from the first one, itself included; steps returns what one leads to."""
    found = {first: True}
    waiting = [first]
    while waiting:
        if len(found) > most:
            raise TooLarge("search")
        here = waiting.pop()
        for after in steps(here):
            if after not in found:
                found[after] = True
                waiting.append(after)
    return list(found)


def _next_ones(lexer, configuration):
    """Return the successors of a configuration by all characters, without their events."""
    ways = [following(lexer, configuration, character) for character in lexer.alphabet]
    return [after for way in ways for _, after in way]
