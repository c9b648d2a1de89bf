"""Second writings of points 41 and 45, searches by trying all texts, and checks that all certificates share."""

import copy
import unittest

from cutscribe.errors import CutError, NotFlat, TooLarge
from cutscribe.tokens import tokenize
from tests import lexing, reference
from tests.lexing import built

FIRST = (0, "start", 0, ())
FIRST_PAIR = (0, 0, "start", 0, 0, ())
FIRST_POSITION = (0, 0, "start", 0, 0, ())
# Any values that are no configurations, pair configurations, positions or items of any lexer, nor sequences of such.
OTHER_VALUES = [None, True, False, 0, 1, -1, 10 ** 30, "", "a", "start", [], (), [[]], [()], ((),), ["start"], [0],
                [None],
                [True], (0, "start", 0, ()), [[0, "start", 0, ()]], [(0, "start", 0)], [(0, "start", 0, (), ())],
                [(0, 0, "start", 0, 0)], [[0, 0, "start", 0, 0, ()]], ([],), (((),),), [((((),),),)], ["ab", "cd"]]


def first_text(lexer, most, holds):
    """The first text of at most so many characters, in the order of texts, of which something holds, or None."""
    return next((text for text in reference.texts(lexer.alphabet, most) if holds(text)), None)


class Machines:
    """The automata of a lexer, asked by index of mode, state and character."""

    def __init__(self, lexer):
        self.names = lexer.mode_names()
        self.both = [lexer.automaton(name) for name in self.names]
        self.given = [lexer.rules(name) for name in self.names]
        self.alphabet = lexer.alphabet

    def next(self, mode, state, character):
        return self.both[mode][0][state][self.alphabet.index(character)]

    def rule(self, mode, state):
        mark = self.both[mode][1][state]
        return None if mark is None else self.given[mode][mark]

    def live(self, mode, state):
        return state in lexing.live_states(self.both[mode])

    def behind(self, mode, rule):
        return self.names.index(rule[3][1]) if rule is not None and rule[3][0] == "go" else mode


def pair_ways(one, other, pair, character):
    """What pair_successors returns, by the words of point 41."""
    first, second = Machines(one), Machines(other)
    mode1, mode2, phase, state1, state2, pending = pair
    new = [(i, j, first.next(i, s, character), second.next(j, t, character)) for i, j, s, t in pending]
    if any(first.rule(i, s) is not None or second.rule(j, t) is not None for i, j, s, t in new):
        return (False, [])
    p = sorted({four for four in new if first.live(four[0], four[2]) or second.live(four[1], four[3])})
    q1, q2 = first.next(mode1, state1, character), second.next(mode2, state2, character)
    is_live = first.live(mode1, q1) or second.live(mode2, q2)
    wider = sorted(set(p) | {(mode1, mode2, q1, q2)}) if is_live else p
    rule1, rule2 = first.rule(mode1, q1), second.rule(mode2, q2)
    found = [(mode1, mode2, "inside", q1, q2, tuple(p))] if is_live else []
    if rule1 is not None and rule2 is not None and (rule1[0], rule1[2]) == (rule2[0], rule2[2]):
        ends = (first.behind(mode1, rule1), second.behind(mode2, rule2), "start", 0, 0, tuple(wider))
        return (False, found + [ends])
    if rule1 is None and rule2 is None:
        return (False, found + ([(mode1, mode2, "start", 0, 0, tuple(wider))] if phase == "start" else []))
    return (True, [])


def position_ways(lexer, words, position, character):
    """What source_successors returns, by the words of point 45."""
    machines = Machines(lexer)
    done, offset, phase, mode, state, pending = position
    new = [(index, machines.next(index, inner, character)) for index, inner in pending]
    if any(machines.rule(index, inner) is not None for index, inner in new):
        return []
    p = tuple(sorted({pair for pair in new if machines.live(*pair)}))
    q = machines.next(mode, state, character)
    is_live = machines.live(mode, q)
    wider = tuple(sorted(set(p) | {(mode, q)})) if is_live else p
    rule = machines.rule(mode, q)
    found = []
    if phase != "word":
        if is_live:
            found.append((done, 0, "gap", mode, q, p))
        if rule is not None and not rule[2]:
            found.append((done, 0, "start", machines.behind(mode, rule), 0, wider))
    if phase != "gap" and done < len(words) and words[done][1][offset] == character:
        name, text = words[done]
        if offset < len(text) - 1:
            if is_live:
                found.append((done, offset + 1, "word", mode, q, p))
        elif rule is not None and rule[0] == name:
            found.append((done + 1, 0, "start", machines.behind(mode, rule), 0, wider))
    return sorted(found)


def closure(first, alphabet, afters):
    """All that is reachable, ascending."""
    found, known = [first], {first}
    for here in found:
        for character in alphabet:
            for after in afters(here, character):
                if after not in known:
                    known.add(after)
                    found.append(after)
    return sorted(found)


def words_of(text, tokens):
    return [(name, text[start:end]) for name, start, end, kind in tokens if kind == "word"]


def is_source(lexer, words, text):
    tokens = tokenize(lexer, text)
    return words_of(text, tokens) == list(words) and all(token[3] != "error" for token in tokens)


class SearchChecks(unittest.TestCase):

    def too_large(self, call):
        for _ in range(2):
            with self.assertRaises(TooLarge) as held:
                call()
            self.assertEqual(held.exception.what, "search")
            self.assertIsInstance(held.exception, CutError)

    def not_flat(self, call, *arguments):
        for given in lexing.NOT_FLAT:
            with self.assertRaises(NotFlat):
                call(built(given), *arguments)

    def bounded(self, call, many, expected):
        """The call, passed most, returns what is expected from the size of the set on, and raises below."""
        for most in {many, many + 1, 2000}:
            self.assertEqual(call(most), expected)
        for most in {many - 1, many // 2, 1}:
            if 0 < most < many:
                self.too_large(lambda: call(most))

    def new_list(self, call, expected):
        """The call returns a new list each time."""
        first = call()
        self.assertIs(type(first), list)
        self.assertEqual(first, expected)
        first.reverse()
        first.append("more")
        self.assertEqual(call(), expected)

    def holds(self, check, value):
        """The check returns True, also of the value in other orders and with repetitions, and changes nothing."""
        before = copy.deepcopy(value)
        for given in (value, tuple(value), list(reversed(value)), value + value[::2], value[1:] + value * 2):
            self.assertIs(check(given), True)
        self.assertEqual(value, before)

    def needs_all(self, check, value):
        """The check of the value without one of its elements returns False; so does that of any other value."""
        for at in range(len(value)):
            self.assertIs(check(value[:at] + value[at + 1:]), False, value[at])
        for other in OTHER_VALUES:
            self.assertIs(check(other), False, other)
        self.refuses(check, value, [other for other in OTHER_VALUES if other not in value])

    def refuses(self, check, value, broken):
        """The check returns False if any of these is added to the value."""
        for part in broken:
            self.assertIs(check(value + [part]), False, part)
            self.assertIs(check([part] + value), False, part)
