"""Notation: patterns and lexers written as texts."""

from cutscribe.errors import InvalidNotation
from cutscribe.lexers import is_alphabet, is_name, Lexer
from cutscribe.patterns import is_pattern, MOST_REPEATS

BEGINNINGS = ("[", "(row)", "(row ", "(any)", "(any ", "(all)", "(all ", "(not ", "(again ")


def format_pattern(pattern):
    """Return the notation of a pattern."""
    word = pattern[0]
    if word == "set":
        return "[" + pattern[1] + "]"
    if word == "again":
        _, part, low, high = pattern
        return " ".join(["(again", format_pattern(part), str(low), "*" if high is None else str(high)]) + ")"
    return " ".join(["(" + word] + [format_pattern(part) for part in pattern[1:]]) + ")"


def parse_pattern(alphabet, text):
    """Return the pattern with a notation."""
    expression, end = _read_expression(alphabet, text)
    if end < len(text):
        raise InvalidNotation(end)
    if not is_pattern(alphabet, expression):
        raise InvalidNotation(len(text))
    return expression


def format_lexer(lexer):
    """Return the text of a lexer."""
    lines = ["alphabet [" + lexer.alphabet + "]"]
    for mode in lexer.mode_names():
        lines.append("mode " + mode)
        for name, pattern, keep, action in lexer.rules(mode):
            lines.append(" ".join(["word" if keep else "gap", name, ":".join(action), format_pattern(pattern)]))
    return "\n".join(lines)


def parse_lexer(text):
    """Return the lexer with a text."""
    lines = text.split("\n")
    alphabet = lines[0][len("alphabet ["):-1]
    if lines[0] != "alphabet [" + alphabet + "]" or not is_alphabet(alphabet):
        raise InvalidNotation(0)
    modes = []
    for index, line in enumerate(lines):
        if index > 0 and not _takes_line(alphabet, modes, line):
            raise InvalidNotation(index)
    return Lexer(alphabet, modes)


def _read_expression(alphabet, text):
    """Return the expression with whose notation a text begins, and the length of this notation."""
    # What is open is kept in a list, not by recursion: a notation may be nested deeply.
    opened = []
    at = 0
    while True:
        beginning = _expected(text, at, BEGINNINGS)
        at += len(beginning)
        whole = None
        if beginning == "[":
            whole, at = _read_set(alphabet, text, at)
        elif beginning.endswith(")"):
            whole = (beginning[1:-1],)
        else:
            opened.append([beginning[1:-1]])
        while whole is not None and len(opened) > 0:
            whole, at = _put_into_last(opened, whole, text, at)
        if whole is not None:
            return whole, at


def _expected(text, at, choices):
    """Return the one of several choices that stands at a position; none of them begins with another one."""
    for choice in choices:
        if text[at:at + len(choice)] == choice:
            return choice
    raise InvalidNotation(at + max([_shared(text[at:], choice) for choice in choices]))


def _shared(one, other):
    """Return how many characters two texts have in common at their beginnings."""
    many = 0
    while many < min(len(one), len(other)) and one[many] == other[many]:
        many += 1
    return many


def _read_set(alphabet, text, at):
    """Return the set whose characters begin at a position, and the position behind its bracket."""
    end = at
    allowed = alphabet
    while end < len(text) and text[end] in allowed:
        _, _, allowed = allowed.partition(text[end])
        end += 1
    return ("set", text[at:end]), end + len(_expected(text, end, ("]",)))


def _put_into_last(opened, part, text, at):
    """Put a part into the expression that was opened last, and read what follows it.

    Return this expression, if that closes it, or None, if a further part follows, and the position behind.
    """
    last = opened[-1]
    last.append(part)
    if last[0] == "again":
        low, high, at = _read_numbers(text, at)
        last.extend([low, high])
    else:
        mark = _expected(text, at, (")",) if last[0] == "not" else (")", " "))
        at += 1
        if mark == " ":
            return None, at
    return tuple(opened.pop()), at


def _read_numbers(text, at):
    """Return the two numbers at the end of an again, and the position behind it."""
    lows = [" " + str(low) + " " for low in range(MOST_REPEATS + 1)]
    low = lows.index(_expected(text, at, lows))
    at += len(lows[low])
    highs = ["*)"] + [str(high) + ")" for high in range(low, MOST_REPEATS + 1)]
    high = _expected(text, at, highs)
    return low, (None if high == "*)" else int(high[:-1])), at + len(high)


def _takes_line(alphabet, modes, line):
    """Put what a line tells into the list of modes, and return whether the line is valid."""
    word, _, rest = line.partition(" ")
    if word == "mode" and is_name(rest):
        modes.append((rest, []))
        return True
    rule = _read_rule(alphabet, word, rest)
    if rule is None or len(modes) == 0:
        return False
    modes[-1][1].append(rule)
    return True


def _read_rule(alphabet, word, text):
    """Return the rule with the first word of a line and the text behind it, or None if they are not in its form."""
    name, _, rest = text.partition(" ")
    written, _, notation = rest.partition(" ")
    action = _read_action(written)
    if word not in ("word", "gap") or not is_name(name) or action is None:
        return None
    try:
        pattern = parse_pattern(alphabet, notation)
    except InvalidNotation:
        return None
    return (name, pattern, word == "word", action)


def _read_action(text):
    """Return the action with a text, or None if there is none."""
    if text in ("stay", "leave"):
        return (text,)
    word, _, mode = text.partition(":")
    return (word, mode) if word in ("go", "enter") and is_name(mode) else None
