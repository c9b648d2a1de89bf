"""Lexers for the tests, and what the document says of tokens and configurations, computed straight from its words."""

import functools

from cutscribe.lexers import Lexer
from tests import reference

STAY = ("stay",)
LEAVE = ("leave",)
A = ("set", "a")
B = ("set", "b")
C = ("set", "c")
AB = ("set", "ab")
ABC = ("set", "abc")
NOTHING = ("set", "")
A_STAR = ("again", A, 0, None)
A_PLUS = ("again", A, 1, None)
AAB = ("row", A, A, B)


def word(name, pattern, action=STAY):
    return (name, pattern, True, action)


def gap(name, pattern, action=STAY):
    return (name, pattern, False, action)


def one_mode(*rules, alphabet="ab"):
    return (alphabet, [("main", list(rules))])


def cycles(*lengths):
    """A lexer with a word for one a, and for each length one for a b behind a multiple of so many a."""
    return one_mode(word("x", A), *[
        word("abcde"[at], ("row", ("again", ("row",) + (A,) * length, 0, None), B))
        for at, length in enumerate(lengths)])


# Every lexer is given by its alphabet and its modes.
DOCUMENT = one_mode(word("x", A), word("y", AAB), gap("g", B))
WITHOUT_Y = one_mode(word("x", A), gap("g", B))
UNLIMITED = one_mode(word("x", A), word("y", ("row", A_PLUS, B)), gap("g", B))
NO_RULES = one_mode()
NEVER_MATCHED = one_mode(word("x", NOTHING), gap("g", ("any",)), word("y", ("row", A, NOTHING)))
ONLY_LONG = one_mode(word("x", ("row", A, B, A, B)), word("y", ("row", B, B)))
KEY_FIRST = one_mode(word("key", ("row", A, B)), word("name", ("again", AB, 1, 3)))
NAME_FIRST = one_mode(word("name", ("again", AB, 1, 3)), word("key", ("row", A, B)))
WITH_NOT = one_mode(word("n", ("all", ("not", A_STAR), ("not", ("row", B, ("again", AB, 0, None))))), gap("g", B))
EVERYTHING = one_mode(word("all", ("not", ("row",))))
TURNS = ("ab", [
    ("one", [word("x", ("row", A, B), ("go", "two")), word("y", A_PLUS), gap("h", ("row", B, B), ("go", "one"))]),
    ("two", [word("z", B, ("go", "one")), word("u", ("row", A, A, A, B), ("go", "none")), word("v", ("row", A, A))]),
    ("none", [])])
CROSSING = ("ab", [
    ("p", [gap("x", A, ("go", "q")), word("l", ("row", A, A, A, A, B))]),
    ("q", [word("y", A, ("go", "p")), word("m", ("row", A, B, B)), gap("b", B)])])
# The texts aa and ab lead to the same place, each by another way behind a.
MEETING = ("ab", [
    ("m", [gap("u", A, ("go", "n")), gap("s", ("row", A, B), ("go", "o"))]),
    ("n", [gap("v", A, ("go", "o"))]),
    ("o", [word("t", A)])])
NESTED = ("abc", [
    ("top", [word("w", A_PLUS), gap("open", B, ("enter", "in")), gap("stray", C, LEAVE)]),
    ("in", [word("t", A), word("deep", ("row", A, B), ("enter", "in")), gap("again", B, ("enter", "top")),
            gap("close", C, LEAVE), gap("over", ("row", C, C, A), ("go", "top"))])])
LEAVING = ("ab", [
    ("f", [word("down", A, ("enter", "s")), word("up", ("row", A, B), LEAVE)]),
    ("s", [gap("back", ("row", B, B), LEAVE), word("in", B, ("enter", "f")), gap("move", A, ("go", "t"))]),
    ("t", [gap("out", AB, LEAVE)])])

FLAT = [DOCUMENT, WITHOUT_Y, UNLIMITED, NO_RULES, NEVER_MATCHED, ONLY_LONG, KEY_FIRST, NAME_FIRST, WITH_NOT,
        EVERYTHING, TURNS, CROSSING, MEETING]
NOT_FLAT = [NESTED, LEAVING]
ALL = FLAT + NOT_FLAT


# Lexers with 400 and 401 reachable configurations.
CYCLES = cycles(3, 5)[1][0][1] + [gap("g", C, ("go", "n"))]
NINES = word("z", ("row", ("again", ("row",) + (A,) * 9, 0, None), B))
FOUR_HUNDRED = ("abc", [("main", CYCLES), ("n", [word("y", ("row",) + (C,) * 7), NINES])])
ONE_MORE = ("abc", [("main", CYCLES), ("n", [word("y", ("row",) + (C,) * 5), NINES,
                                             word("w", ("row",) + (C,) * 8 + (A,))])])


# Lexers of gaps alone, with 400 and 401 positions that are reachable without words.
GAP_CYCLES = [rule[:2] + (False,) + rule[3:] for rule in CYCLES]
GAP_NINES = gap("z", NINES[1])
FOUR_HUNDRED_GAPS = ("abc", [
    ("main", GAP_CYCLES),
    ("n", [gap("y", ("row",) + (C,) * 8), GAP_NINES, gap("s", A), gap("h", ("row", B, C), ("go", "o"))]),
    ("o", [gap("p", ("row",) + (B,) * 7)])])
ONE_MORE_GAP = ("abc", [
    ("main", GAP_CYCLES),
    ("n", [gap("y", ("row",) + (C,) * 3), GAP_NINES, gap("s", A), gap("w", ("row",) + (C,) * 8 + (A,))])])


def built(given):
    return Lexer(given[0], given[1])


class Told:
    """Tokens by the words of points 20 and 21: matching texts are looked up, nothing is done with automata."""

    def __init__(self, given, most):
        """Texts of at most so many characters are looked up: enough to see from each text whether it may go on."""
        self.alphabet, self.modes = given
        self.languages = {name: [reference.language(self.alphabet, rule[1], most) for rule in rules]
                          for name, rules in self.modes}
        self.open = {name: {text[:end] for found in languages for text in found for end in range(len(text))}
                     for name, languages in self.languages.items()}

    def readings(self, text):
        """A pair of the token and what scan tells of it, for each token."""
        found = []
        mode, stack, start = self.modes[0][0], (), 0
        while start < len(text):
            read = 0
            while start + read < len(text) and text[start:start + read] in self.open[mode]:
                read += 1
            at_end = start + read == len(text) and text[start:] in self.open[mode]
            rule, length = self.longest(mode, text[start:start + read])
            token = (rule[0], start, start + length, "word" if rule[2] else "gap") if rule else (
                "", start, start + 1, "error")
            found.append((token, (mode, stack, max(1, read), at_end)))
            mode, stack = self.moved(rule, mode, stack)
            start += length
        return found

    def longest(self, mode, read):
        """The first rule that matches the longest beginning of what was read, and its length; else None and 1."""
        rules = dict(self.modes)[mode]
        for length in range(len(read), 0, -1):
            for rule, language in zip(rules, self.languages[mode]):
                if read[:length] in language:
                    return rule, length
        return None, 1

    def moved(self, rule, mode, stack):
        if rule is None or rule[3] == STAY:
            return mode, stack
        if rule[3] == LEAVE:
            return (stack[-1], stack[:-1]) if stack else (mode, stack)
        return rule[3][1], stack + (mode,) if rule[3][0] == "enter" else stack


def lookup_length(given):
    """How long the looked up texts have to be for texts of up to 5 (with three characters, 4) characters."""
    return 9 if len(given[0]) == 2 else 6


def text_length(given):
    return 5 if len(given[0]) == 2 else 4


@functools.lru_cache(maxsize=None)
def live_states(both):
    """The states from which some text of at least one character leads to an accepting state."""
    rows, marks = both
    return {state for state in range(len(rows)) if any(marks[end] is not None for end in behind(rows, state))}


def behind(rows, state):
    """The states that are reached from a state by at least one character."""
    found = list(rows[state])
    for reached in found:
        found.extend(after for after in rows[reached] if after not in found)
    return found


def ways(lexer, configuration, character):
    """The successors of a configuration by the words of point 33."""
    names = lexer.mode_names()
    machines = [lexer.automaton(name) for name in names]
    live = [live_states(machine) for machine in machines]
    column = lexer.alphabet.index(character)
    mode, phase, state, pending = configuration
    new = {(index, machines[index][0][inner][column]) for index, inner in pending}
    if any(machines[index][1][inner] is not None for index, inner in new):
        return []
    p = sorted(pair for pair in new if pair[1] in live[pair[0]])
    q = machines[mode][0][state][column]
    is_live = q in live[mode]
    wider = sorted(set(p) | ({(mode, q)} if is_live else set()))
    found = [(None, (mode, "inside", q, tuple(p)))] if is_live else []
    if machines[mode][1][q] is not None:
        name, _, keep, action = lexer.rules(names[mode])[machines[mode][1][q]]
        to = names.index(action[1]) if action[0] == "go" else mode
        found.append(((name, "word" if keep else "gap"), (to, "start", 0, tuple(wider))))
    elif phase == "start":
        found.append((("", "error"), (mode, "start", 0, tuple(wider))))
    return found


def all_reachable(lexer):
    """All reachable configurations, ascending."""
    found = [(0, "start", 0, ())]
    known = set(found)
    for configuration in found:
        for character in lexer.alphabet:
            found.extend(after for _, after in ways(lexer, configuration, character) if after not in known)
            known.update(found[len(known):])
    return sorted(found)
