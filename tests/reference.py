"""What the document says of patterns, computed straight from its words and without the package."""

from itertools import product


def texts(alphabet, most):
    """All texts over the alphabet with at most so many characters, in the order of texts."""
    return ["".join(text) for length in range(most + 1) for text in product(alphabet, repeat=length)]


def language(alphabet, pattern, most):
    """The set of the texts of at most so many characters that the pattern matches."""
    word = pattern[0]
    if word == "set":
        return {character for character in pattern[1] if most >= 1}
    if word == "again":
        return _repeated(language(alphabet, pattern[1], most), pattern[2], pattern[3], most)
    parts = [language(alphabet, part, most) for part in pattern[1:]]
    if word == "row":
        found = {""}
        for part in parts:
            found = _joined(found, part, most)
        return found
    if word == "any":
        return set().union(*parts)
    if word == "all":
        return set(texts(alphabet, most)).intersection(*parts)
    return set(texts(alphabet, most)) - parts[0]


def _joined(one, other, most):
    return {left + right for left in one for right in other if len(left + right) <= most}


def _repeated(part, low, high, most):
    # Without an upper limit low + most repetitions are enough: any further one that is not empty is too long.
    power = {""}
    found = set()
    for count in range((low + most if high is None else high) + 1):
        if count >= low:
            found |= power
        power = _joined(power, part, most)
    return found


def is_expression(alphabet, value):
    """Whether a value is an expression over the alphabet, of any size."""
    if type(value) is not tuple or not value or type(value[0]) is not str:
        return False
    word, rest = value[0], value[1:]
    if word == "set":
        return len(rest) == 1 and rest[0] in ordered_selections(alphabet)
    if word in ("row", "any", "all"):
        return all(is_expression(alphabet, part) for part in rest)
    if word == "not":
        return len(rest) == 1 and is_expression(alphabet, rest[0])
    if word != "again" or len(rest) != 3 or not is_expression(alphabet, rest[0]):
        return False
    low, high = rest[1:]
    if type(low) is not int or not 0 <= low <= 4:
        return False
    return high is None or (type(high) is int and low <= high <= 4)


def ordered_selections(alphabet):
    selections = [""]
    for character in alphabet:
        selections += [selection + character for selection in selections]
    return selections


def occurrences(expression):
    """The expression itself and every occurrence of a part of it at any depth."""
    inner = [part for part in expression[1:] if type(part) is tuple]
    return [expression] + [below for part in inner for below in occurrences(part)]


def width(expression):
    word = expression[0]
    if word == "set":
        return 1
    if word == "not":
        return width(expression[1])
    if word == "again":
        low, high = expression[2:]
        return width(expression[1]) * (low + 1 if high is None else max(1, high))
    return max(1, sum(width(part) for part in expression[1:]))


def is_plain(expression):
    return all(part[0] not in ("all", "not") for part in occurrences(expression))


def is_pattern(alphabet, value):
    """Whether a value is a pattern over the alphabet."""
    if not is_expression(alphabet, value) or width(value) > 10 or len(occurrences(value)) > 20:
        return False
    rows_and_agains = [part for part in occurrences(value) if part[0] in ("row", "again")]
    return all(is_plain(inner) for outer in rows_and_agains for inner in outer[1:] if type(inner) is tuple)


def small_expressions():
    """Some thousand expressions over the alphabet ab, patterns for the most part: each kind around each kind."""
    leaves = [("set", ""), ("set", "a"), ("set", "b"), ("set", "ab"), ("row",), ("any",)]
    ranges = [(0, None), (1, None), (2, None), (0, 0), (0, 1), (1, 1), (0, 2), (2, 2), (2, 3)]
    pairs = [(word, one, other) for word in ("row", "any") for one in leaves for other in leaves]
    agains = [("again", part, low, high) for part in leaves + pairs[::5] for low, high in ranges]
    rows = [("row", one, other) for one in agains[::5] for other in pairs[::7] + agains[::13]]
    nested = [("again", part, low, high) for part in agains[::7] + rows[::41] for low, high in ranges]
    plain = leaves + pairs + agains + rows + nested
    tops = leaves + pairs[::9] + agains[::17] + rows[::53] + nested[::37]
    nots = [("not", part) for part in plain[::5]]
    both = [(word, one, other) for word in ("all", "any") for one in tops for other in tops[::3] + nots[::67]]
    deep = [("not", ("any", ("not", part), ("all", part, ("not", ("row",))))) for part in tops]
    wrong = [(word, part, ("set", "a")) for word in ("row", "any") for part in nots[::3] + both[::31]]
    again = [("again", part, 0, 2) for part in nots[::7] + both[::97]]
    return plain + nots + both + deep + wrong + again + [("all",), ("not", ("all",)), ("all", ("not", ("any",)))]


def small_patterns():
    """Those of the small expressions that are patterns."""
    return [expression for expression in small_expressions() if is_pattern("ab", expression)]
