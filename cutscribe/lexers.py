"""Lexers: checked, and made ready for reading mode by mode."""

from cutscribe.automata import automaton, joint_automaton
from cutscribe.errors import InvalidLexer, UnknownMode
from cutscribe.patterns import is_pattern, matches

LETTERS = "abcdefghijklmnopqrstuvwxyz"
CHARACTERS = "abcdefghijklmnopqrstuvwxyz0123456789_-. "
MOST_CHARACTERS = 6
MOST_LETTERS = 8
MOST_MODES = 4
MOST_RULES = 6


class Lexer:
    """An alphabet and one to four modes, each an ordered sequence of rules."""

    def __init__(self, alphabet, modes):
        _check(alphabet, modes)
        self.alphabet = alphabet
        self._given = [(name, [tuple(rule) for rule in rules]) for name, rules in modes]
        self.modes = _made_ready(alphabet, self._given)

    def __eq__(self, other):
        return isinstance(other, Lexer) and self.alphabet == other.alphabet and self._given == other._given

    def __len__(self):
        return len([rule for _, rules in self._given for rule in rules])

    def mode_names(self):
        """Return the names of the modes, in order."""
        return [name for name, _ in self._given]

    def rules(self, mode):
        """Return the rules of a mode, as tuples."""
        return list(self._given[self._index(mode)][1])

    def automaton(self, mode):
        """Return the automaton of a mode; its marks are the indices of rules, or None."""
        found = self.modes[self._index(mode)]
        return (found.rows, found.marks)

    def is_flat(self):
        """Return whether no action is an enter or a leave."""
        return all([rule[3][0] in ("stay", "go") for _, rules in self._given for rule in rules])

    def _index(self, mode):
        for index, (name, _) in enumerate(self._given):
            if name == mode:
                return index
        raise UnknownMode(mode)


class Mode:
    """A mode made ready for reading: its automaton, its live states and what a token of each rule is and does."""

    def __init__(self, alphabet, name, both, entries):
        self.name = name
        self.rows, self.marks = both
        self.steps = [dict(zip(alphabet, row)) for row in self.rows]
        self.live = _live(self.rows, self.marks)
        self.entries = entries


def is_alphabet(value):
    """Return whether a value, any value, is an alphabet."""
    if not isinstance(value, str) or not 1 <= len(value) <= MOST_CHARACTERS:
        return False
    return len(set(value)) == len(value) and all([character in CHARACTERS for character in value])


def is_name(value):
    """Return whether a value, any value, is a name."""
    if not isinstance(value, str) or not 1 <= len(value) <= MOST_LETTERS:
        return False
    return all([character in LETTERS for character in value])


def _check(alphabet, modes):
    """Raise InvalidLexer for the first thing that is wrong."""
    if not is_alphabet(alphabet):
        raise InvalidLexer("alphabet", None, None)
    if not 1 <= len(modes) <= MOST_MODES:
        raise InvalidLexer("modes", None, None)
    _check_modes(alphabet, modes)
    _check_actions(modes)


def _check_modes(alphabet, modes):
    mode_names = []
    rule_names = []
    for at_mode, (name, rules) in enumerate(modes):
        if not is_name(name) or name in mode_names:
            raise InvalidLexer("mode", at_mode, None)
        if len(rules) > MOST_RULES:
            raise InvalidLexer("rules", at_mode, None)
        _check_rules(alphabet, at_mode, rules, rule_names)
        mode_names.append(name)
        rule_names.extend([rule[0] for rule in rules])


def _check_rules(alphabet, at_mode, rules, earlier):
    """Check the names and the patterns of the rules of a mode, given the names of all rules of earlier modes."""
    for at_rule, rule in enumerate(rules):
        name, pattern = rule[0], rule[1]
        if not is_name(name) or name in earlier or name in [before[0] for before in rules[:at_rule]]:
            raise InvalidLexer("name", at_mode, at_rule)
        if not is_pattern(alphabet, pattern):
            raise InvalidLexer("pattern", at_mode, at_rule)
        if matches(alphabet, pattern, ""):
            raise InvalidLexer("empty", at_mode, at_rule)


def _check_actions(modes):
    names = [name for name, _ in modes]
    for at_mode, (_, rules) in enumerate(modes):
        for at_rule, rule in enumerate(rules):
            if not _is_action(rule[3], names):
                raise InvalidLexer("action", at_mode, at_rule)


def _is_action(value, names):
    """Return whether a value, any value, is an action in a lexer whose modes have these names."""
    if not isinstance(value, tuple) or len(value) == 0:
        return False
    if value[0] in ("stay", "leave"):
        return len(value) == 1
    return value[0] in ("go", "enter") and len(value) == 2 and value[1] in names


def _made_ready(alphabet, given):
    """Return the modes of a lexer; raise TooLarge for a pattern of any mode, then for a mode."""
    parts = [[automaton(alphabet, rule[1]) for rule in rules] for _, rules in given]
    joint = [joint_automaton(alphabet, part) for part in parts]
    names = [name for name, _ in given]
    return [Mode(alphabet, name, both, _entries(rules, names)) for (name, rules), both in zip(given, joint)]


def _entries(rules, names):
    """Return for each rule the tuple (name, kind, word of the action, index of the mode that it names or None)."""
    entries = []
    for name, _, keep, action in rules:
        target = names.index(action[1]) if len(action) == 2 else None
        entries.append((name, "word" if keep else "gap", action[0], target))
    return entries


def _live(rows, marks):
    """Return for each state whether some text of at least one character leads from it to an accepting state."""
    live = [False for _ in rows]
    while True:
        wider = [any([live[after] or marks[after] is not None for after in row]) for row in rows]
        if wider == live:
            return live
        live = wider
