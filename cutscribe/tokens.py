"""The tokens of a text: by longest match, mode by mode."""

from cutscribe.patterns import check_text

ERROR = ("", "error", "stay", None)


def tokenize(lexer, text):
    """Return the tokens of a text."""
    return [token for token, _ in _readings(lexer, text)]


def scan(lexer, text):
    """Return for each token of a text where it was begun, how much it has scanned and whether it saw the end."""
    return [begun for _, begun in _readings(lexer, text)]


def read_token(mode, text, start):
    """Read the token at a position where at least one character is left.

    Return its entry (that of its rule, or ERROR), its end, how many characters it has scanned and whether it has
    reached the end of the text.
    """
    entry, end = ERROR, start + 1
    state, position = 0, start
    while position < len(text) and mode.live[state]:
        state = mode.steps[state][text[position]]
        position += 1
        if mode.marks[state] is not None:
            entry, end = mode.entries[mode.marks[state]], position
    # Where reading stops in a live state, nothing was left to read.
    return entry, end, max(1, position - start), mode.live[state]


def after_token(entry, mode, stack):
    """Return the current mode and the stack, as indices of modes, behind a token with this entry."""
    _, _, move, target = entry
    if move == "go":
        return target, stack
    if move == "enter":
        return target, stack + (mode,)
    if move == "leave" and len(stack) > 0:
        return stack[-1], stack[:-1]
    return mode, stack


def stack_names(lexer, stack):
    """Return the names of the modes on a stack, the bottom first."""
    return tuple([lexer.modes[mode].name for mode in stack])


def _readings(lexer, text):
    """Return for each token of a text a pair of the token and what scan tells of it."""
    check_text(lexer.alphabet, text)
    readings = []
    mode, stack, start = 0, (), 0
    while start < len(text):
        entry, end, scanned, at_end = read_token(lexer.modes[mode], text, start)
        begun = (lexer.modes[mode].name, stack_names(lexer, stack), scanned, at_end)
        readings.append(((entry[0], start, end, entry[1]), begun))
        mode, stack = after_token(entry, mode, stack)
        start = end
    return readings
