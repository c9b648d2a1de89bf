"""Points 2, 6, 13 and 15: which values a lexer is built from, and the first thing that is wrong with others."""

import copy
import time
import unittest

from cutscribe.automata import automaton
from cutscribe.errors import CutError, InvalidLexer, TooLarge
from cutscribe.lexers import Lexer
from tests import test_automata
from tests.lexing import A, AAB, AB, A_PLUS, A_STAR, B, LEAVE, STAY, gap, word

THIRTY_NINE = test_automata.Size.THIRTY_NINE
NO_STRINGS = (None, True, False, 0, 1, -3, 10 ** 40, [], ["a"], (), ("a",), ["set", "a"], [[], ()], ("stay", []))
NO_NAMES = NO_STRINGS + ("", "A", "a1", "go to")


def nested(depth, value=()):
    for level in range(depth):
        value = (value,) if level % 2 else [value]
    return value


def rules(many, first=0):
    """So many rules with different names."""
    return [word("r" + "abcdefghijklmnopqrstuvwxyz"[first + index], A) for index in range(many)]


class Checks(unittest.TestCase):

    def accepts(self, modes, alphabet="ab"):
        return Lexer(alphabet, modes)

    def rejects(self, modes, reason, mode=None, rule=None, alphabet="ab"):
        """The error is raised, again at a second call, and the arguments are as before."""
        before = copy.deepcopy((alphabet, modes))
        for _ in range(2):
            with self.assertRaises(InvalidLexer) as held:
                Lexer(alphabet, modes)
            error = held.exception
            self.assertIsInstance(error, CutError)
            self.assertEqual((error.reason, error.mode, error.rule), (reason, mode, rule))
            for index in (error.mode, error.rule):
                self.assertIn(type(index), (int, type(None)))
        self.assertEqual((alphabet, modes), before)

    def too_large(self, modes, what, alphabet="ab"):
        for _ in range(2):
            with self.assertRaises(TooLarge) as held:
                Lexer(alphabet, modes)
            self.assertEqual(held.exception.what, what)

    def everywhere(self, wrong, reason):
        """A wrong rule is found as the first and as a later one, of the first and of a later mode."""
        ok = [word("one", A), gap("two", B)]
        for at_mode in range(4):
            for at_rule in range(3):
                modes = [("mode", []), ("other", ()), ("third", []), ("last", [])]
                modes[at_mode] = (modes[at_mode][0], ok[:at_rule] + [wrong] + ok[at_rule:])
                self.rejects(modes, reason, at_mode, at_rule)


class Alphabets(Checks):

    def test_all_allowed_characters(self):
        for alphabet in ("a", "z", "0", "9", " ", "-", ".", "_", "ab", "ba", "az09 -", "._- z0", "abcdef", "543210"):
            lexer = Lexer(alphabet, [("m", [word("x", ("set", alphabet))])])
            self.assertEqual(lexer.alphabet, alphabet)

    def test_other_strings(self):
        for alphabet in ("", "aa", "aba", "abca", "abcdefg", "abcdefa", "A", "aB", "Z", "a%", "a\n", "a\t", "a,", "+",
                         "/", "a:", "`", "{", "@", "[", "a!", "  ", "a" * 1000):
            self.rejects([("m", [])], "alphabet", alphabet=alphabet)

    def test_other_values(self):
        for alphabet in NO_STRINGS + (["a", "b"], ("a", "b"), nested(30), nested(29, "a")):
            self.rejects([("m", [])], "alphabet", alphabet=alphabet)


class Modes(Checks):

    def test_how_many(self):
        for kind in (tuple, list):
            self.rejects(kind([]), "modes")
            for many in range(1, 8):
                modes = kind([(name, []) for name in "abcdefgh"[:many]])
                if many <= 4:
                    self.assertEqual(self.accepts(modes).mode_names(), list("abcdefgh"[:many]))
                else:
                    self.rejects(modes, "modes")

    def test_names(self):
        for name in ("a", "z", "ab", "abcdefgh", "zzzzzzzz", "aaaaaaaa", "stay"):
            self.assertEqual(self.accepts([(name, [])]).mode_names(), [name])
            self.assertEqual(self.accepts([("other", []), (name, [])]).mode_names(), ["other", name])

    def test_other_values_as_names(self):
        for name in ("", "abcdefghi", "a" * 1000, "A", "aB", "a1", "1", "a b", " ", " a", "a ", "a-b", "_", "a_", ".",
                     "a.", "main\n", "`", "{", "a,b") + NO_NAMES + (nested(30), ("main",), ["main"], ["m", []]):
            self.rejects([(name, [])], "mode", 0)
            self.rejects([("one", rules(6)), ("two", ()), (name, [])], "mode", 2)
            self.rejects([[name, rules(2)], ("two", ())], "mode", 0)

    def test_the_name_of_an_earlier_mode(self):
        self.rejects([("m", []), ("m", [])], "mode", 1)
        self.rejects([("m", []), ("n", []), ("n", [])], "mode", 2)
        self.rejects([("m", rules(2)), ("n", []), ("o", []), ("m", rules(2))], "mode", 3)
        self.rejects([("m", []), ("n", []), ("n", []), ("m", [])], "mode", 2)
        self.accepts([("m", []), ("mm", []), ("n", []), ("mmm", [])])

    def test_how_many_rules(self):
        for kind in (tuple, list):
            for many in range(10):
                modes = [("m", kind(rules(many)))]
                if many <= 6:
                    self.assertEqual(len(self.accepts(modes)), many)
                else:
                    self.rejects(modes, "rules", 0)
                    self.rejects([("a", rules(6, 10)), ("b", ()), ("c", rules(3, 20))] + modes, "rules", 3)
        self.assertEqual(len(self.accepts([("abcd"[at], rules(6, 6 * at)) for at in range(4)])), 24)


class Names(Checks):

    def test_names(self):
        for name in ("a", "z", "abcdefgh", "zzzzzzzz", "set", "error"):
            self.assertEqual(self.accepts([("m", [word(name, A)])]).rules("m")[0][0], name)

    def test_other_values(self):
        for name in ("", "abcdefghi", "A", "xY", "x1", "7", "x y", "x-", "_x", "x.", " ", "x\n", "{") + NO_NAMES:
            self.everywhere(word(name, A), "name")
        for name in (nested(30), ("x",), ["x"], word("x", A)):
            self.rejects([("m", [word(name, A)])], "name", 0, 0)

    def test_the_name_of_an_earlier_rule(self):
        x, y, z = word("x", A), gap("y", B), word("z", AB)
        self.rejects([("m", [x, x])], "name", 0, 1)
        self.rejects([("m", [x, y, z, gap("y", AB)])], "name", 0, 3)
        self.rejects([("m", [x]), ("n", [y, x])], "name", 1, 1)
        self.rejects([("m", [y, x]), ("n", []), ("o", [x])], "name", 2, 0)
        self.rejects([("m", [x]), ("n", [y]), ("o", [z]), ("p", [gap("y", A)])], "name", 3, 0)
        self.accepts([("m", [x]), ("n", [y]), ("o", [z]), ("p", [gap("yy", A)])])

    def test_a_rule_and_a_mode_may_have_the_same_name(self):
        lexer = self.accepts([("m", [word("m", A)]), ("n", [word("n", A, ("go", "m"))])])
        self.assertEqual(lexer.rules("n"), [("n", A, True, ("go", "m"))])
        self.accepts([("m", [word("n", A)]), ("n", [word("m", A)])])


class Patterns(Checks):

    def test_other_values(self):
        for pattern in NO_NAMES + (["set", "a"], ("set", "ba"), ("set", "c"), ("set", "A"), ("row", ["set", "a"]),
                                     ("again", A, True, None), ("again", A, 1, 5), ("row", ("not", A)), ("not",)):
            self.everywhere(word("x", pattern), "pattern")
        for pattern in (nested(30), nested(29, A), ("not", [A]), ("row",) + (A,) * 11, ("row",) + (A,) * 90000):
            self.rejects([("m", [word("x", pattern)])], "pattern", 0, 0)

    def test_patterns_of_another_alphabet(self):
        c = word("x", ("set", "bc"))
        self.accepts([("m", [c])], "abc")
        self.accepts([("m", [c])], "bac")
        self.rejects([("m", [c])], "pattern", 0, 0, "ab")
        self.rejects([("m", [c])], "pattern", 0, 0, "cba")

    def test_the_limits_of_width_and_of_tuples(self):
        self.accepts([("m", [word("x", ("row",) + (A,) * 10)])])
        self.rejects([("m", [word("x", ("row",) + (A,) * 11)])], "pattern", 0, 0)
        nots = A
        for _ in range(18):
            nots = ("not", nots)
        self.accepts([("m", [word("x", ("any", nots))])])
        self.rejects([("m", [word("x", ("any", ("any", nots)))])], "pattern", 0, 0)

    def test_patterns_that_match_the_empty_text(self):
        for pattern in (("row",), ("all",), A_STAR, ("not", A), ("again", AAB, 0, 0), ("any", A, ("row",)),
                        ("row", A_STAR, ("again", B, 0, 2)), ("all", A_STAR, ("not", A)), ("not", ("any",))):
            self.everywhere(gap("x", pattern), "empty")
        for pattern in (("any",), ("set", ""), A_PLUS, ("not", ("row",)), ("all", A, B), ("row", A_STAR, B)):
            self.accepts([("m", [word("x", pattern)])])


class Actions(Checks):

    def test_the_four_actions(self):
        for action in (STAY, LEAVE, ("go", "m"), ("enter", "m"), ("go", "n"), ("enter", "n")):
            lexer = self.accepts([("m", [word("x", A, action)]), ("n", [word("y", A, action)])])
            self.assertEqual([lexer.rules(name)[0][3] for name in ("m", "n")], [action, action])

    def test_modes_that_are_defined_later_or_not_at_all(self):
        modes = [("a", []), ("b", []), ("c", []), ("d", [])]
        for at_mode in range(4):
            for move in ("go", "enter"):
                for name in "abcd":
                    given = list(modes)
                    given[at_mode] = (modes[at_mode][0], [word("x", A), word("y", A, (move, name))])
                    self.accepts(given)
                for name in ("e", "", "x", "A", "ab"):
                    given[at_mode] = (modes[at_mode][0], [word("x", A), word("y", A, (move, name))])
                    self.rejects(given, "action", at_mode, 1)

    def test_other_values(self):
        for action in NO_NAMES + (["stay"], ["go", "mode"], "stay", "leave", "enter", ("Stay",), ("stays",),
                                    ("stay", None), ("stay", "mode"), ("leave", "mode"), ("go",), ("enter",),
                                    ("go", "mode", "mode"), ("enter", "mode", None), ("go", None), ("go", 0),
                                    ("go", True), ("go", ["mode"]), ("go", ("mode",)), ("enter", []), ("go", "one"),
                                    (("stay",),), (None,), (0,), (["go"], "mode"), ("mode", "go"), ("", "mode"),
                                    ("push", "mode"), ("leave", "leave"), ("go", "go"), ("stay", "stay", "stay")):
            self.everywhere(word("x", A, action), "action")
        for action in (nested(30), ("go", nested(29)), (nested(29), "m"), ("stay",) * 90000):
            self.rejects([("m", [word("x", A, action)])], "action", 0, 0)


class Order(Checks):
    """Of two or more things that are wrong the one that is checked first is named."""

    BAD_NAME = word("X", A)
    BAD_PATTERN = word("p", ("set", "c"))
    BAD_EMPTY = word("e", ("row",))
    BAD_ACTION = word("k", A, ("go", "nowhere"))
    LARGE = word("l", ("row", AB, AB, THIRTY_NINE))

    def test_the_alphabet_is_first(self):
        for modes in ([], [("M", [])], [("m", rules(7))], [("m", [self.BAD_NAME])], [("m", [self.BAD_ACTION])]):
            self.rejects(modes, "alphabet", alphabet="")
            self.rejects(modes, "alphabet", alphabet=None)

    def test_the_number_of_modes_is_second(self):
        for wrong in (("M", []), ("m", rules(7)), ("m", [self.BAD_NAME]), ("m", [self.BAD_ACTION])):
            self.rejects([wrong] * 5, "modes")
            self.rejects([("a", []), ("b", []), ("c", []), ("d", []), wrong], "modes")

    def test_within_a_mode(self):
        self.rejects([("M", rules(7))], "mode", 0)
        self.rejects([("m", [self.BAD_NAME] * 7)], "rules", 0)
        self.rejects([("m", rules(6) + [self.BAD_NAME])], "rules", 0)
        self.rejects([("M", [self.BAD_NAME, self.BAD_PATTERN])], "mode", 0)
        self.rejects([("m", []), ("m", [self.BAD_NAME])], "mode", 1)

    def test_within_a_rule(self):
        self.rejects([("m", [word("X", ("set", "c"), None)])], "name", 0, 0)
        self.rejects([("m", [word("x", ("row",), None)])], "empty", 0, 0)
        self.rejects([("m", [word("x", ["row"], None)])], "pattern", 0, 0)
        self.rejects([("m", [word(["x"], None, [])])], "name", 0, 0)
        self.rejects([("m", [word("x", A), word("x", ("row",))])], "name", 0, 1)

    def test_rule_by_rule(self):
        wrong = [(self.BAD_NAME, "name"), (self.BAD_PATTERN, "pattern"), (self.BAD_EMPTY, "empty")]
        for first, reason in wrong:
            for second, _ in wrong:
                self.rejects([("m", [first, second])], reason, 0, 0)
                self.rejects([("m", [word("ok", A), first, word("yes", A), second])], reason, 0, 1)
                self.rejects([("m", [word("ok", A), first]), ("n", [second])], reason, 0, 1)

    def test_mode_by_mode(self):
        wrong = [(("M", []), "mode", None), (("m", rules(7)), "rules", None), (("m", [self.BAD_NAME]), "name", 0),
                 (("m", [self.BAD_PATTERN]), "pattern", 0), (("m", [word("ok", A), self.BAD_EMPTY]), "empty", 1)]
        for first, reason, rule in wrong:
            for second, later_reason, later_rule in wrong:
                self.rejects([first, ("other", []), ("n" if second[0] == "m" else "N", second[1])], reason, 0, rule)
                self.rejects([("a", []), (first[0], first[1]), second], reason, 1, rule)

    def test_actions_come_behind_all_else_of_all_modes(self):
        action = ("m", [self.BAD_ACTION])
        self.rejects([action], "action", 0, 0)
        self.rejects([action, ("N", [])], "mode", 1)
        self.rejects([action, ("m", [])], "mode", 1)
        self.rejects([action, ("n", rules(7))], "rules", 1)
        self.rejects([action, ("n", [self.BAD_NAME])], "name", 1, 0)
        self.rejects([action, ("n", [word("k", A)])], "name", 1, 0)
        self.rejects([action, ("n", [word("ok", A), self.BAD_PATTERN])], "pattern", 1, 1)
        self.rejects([("m", [self.BAD_ACTION, self.BAD_EMPTY])], "empty", 0, 1)
        self.rejects([("m", [word("ok", A), self.BAD_ACTION]), ("n", [word("j", A, None)])], "action", 0, 1)
        self.rejects([("m", [word("ok", A)]), ("n", [word("j", A, None), self.BAD_ACTION])], "action", 1, 0)

    def test_what_is_too_large_comes_last(self):
        large = ("m", [self.LARGE])
        self.too_large([large], "pattern")
        self.rejects([large, ("N", [])], "mode", 1)
        self.rejects([large, ("n", [word("l", A)])], "name", 1, 0)
        self.rejects([("m", [self.LARGE, self.BAD_EMPTY])], "empty", 0, 1)
        self.rejects([("m", [self.LARGE, self.BAD_ACTION])], "action", 0, 1)
        self.rejects([large, ("n", []), ("o", [self.BAD_ACTION])], "action", 2, 0)
        many = TooMany.rules(TooMany.prefixed)
        self.rejects([("n", many), ("m", [self.BAD_ACTION])], "action", 1, 0, "abc")
        self.too_large([("n", many), large], "pattern", "abc")
        self.too_large([("n", many), ("m", [word("ok", A)])], "mode", "abc")


class LargePatterns(Checks):

    def test_forty_states_and_one_more(self):
        forty = ("row", AB, THIRTY_NINE)
        self.assertEqual(len(automaton("ab", forty)[0]), 40)
        lexer = self.accepts([("m", [word("x", forty)])])
        self.assertEqual(len(lexer.automaton("m")[0]), 40)
        one_more = word("y", ("row", AB, forty))
        self.too_large([("m", [one_more])], "pattern")
        self.too_large([("m", [word("x", A), gap("z", forty), one_more])], "pattern")
        self.too_large([("m", []), ("n", []), ("o", [word("x", A)]), ("p", [word("z", B), one_more])], "pattern")

    def test_it_is_the_pattern_and_not_the_mode_that_counts(self):
        everything = word("all", ("not", ("row",)))
        self.too_large([("m", [everything, word("y", ("row", AB, AB, THIRTY_NINE))])], "pattern")


class TooMany(Checks):
    """Texts that begin with an a run through cycles of 8, 7 and 3 states, those with a b through 5 and 6.

    So the tuples are that of the empty text, 168 that begin with an a and 30 that begin with a b; over abc there
    is also the one in which all automata are dead, and with one character in front that may be any one, one more.
    """

    CYCLES = (("a", 8), ("a", 7), ("a", 3), ("b", 5), ("b", 6))

    @staticmethod
    def cycle(first, length, alphabet):
        anything = ("set", alphabet)
        return ("row", ("set", first), ("again", ("row",) + (anything,) * length, 0, None))

    @staticmethod
    def prefixed(pattern, alphabet):
        return ("row", ("set", alphabet)) + pattern[1:]

    @classmethod
    def rules(cls, change=lambda pattern, alphabet: pattern, alphabet="abc"):
        return [word("r" + "abcde"[at], change(cls.cycle(first, length, alphabet), alphabet))
                for at, (first, length) in enumerate(cls.CYCLES)]

    def tuples(self, given, alphabet):
        """The number of tuples, counted without the lexer."""
        parts = [automaton(alphabet, rule[1])[0] for rule in given]
        found = {(0,) * len(parts): True}
        waiting = list(found)
        for here in waiting:
            for column in range(len(alphabet)):
                after = tuple(rows[state][column] for rows, state in zip(parts, here))
                if after not in found:
                    found[after] = True
                    waiting.append(after)
        return len(found)

    def test_two_hundred_tuples_and_one_more(self):
        for alphabet, change, many in (("ab", None, 199), ("ab", self.prefixed, 200), ("abc", None, 200),
                                       ("abc", self.prefixed, 201)):
            given = self.rules(alphabet=alphabet) if change is None else self.rules(change, alphabet)
            self.assertEqual(self.tuples(given, alphabet), many)
            if many <= 200:
                self.accepts([("m", given)], alphabet)
            else:
                self.too_large([("m", given)], "mode", alphabet)
                self.too_large([("l", []), ("m", [word("x", A)]), ("n", []), ("o", given)], "mode", alphabet)

    def test_the_tuples_count_and_not_the_states_of_the_automaton(self):
        everything = gap("all", ("not", ("row",)))
        smallest = (((1, 1, 1), (1, 1, 1)), (None, 0))
        lexer = self.accepts([("m", [everything] + self.rules())], "abc")
        self.assertEqual(lexer.automaton("m"), smallest)
        self.assertEqual(self.accepts([("m", [everything])], "abc").automaton("m"), smallest)
        self.too_large([("m", [everything] + self.rules(self.prefixed))], "mode", "abc")
        # What comes first hides nothing either: each of the texts has the same mark as before.
        self.too_large([("m", self.rules(self.prefixed) + [everything])], "mode", "abc")

    def test_each_mode_counts_for_itself(self):
        first = self.rules()
        second = [word("s" + rule[0], rule[1]) for rule in first]
        third = [word("t" + rule[0], rule[1]) for rule in first]
        lexer = self.accepts([("m", first), ("n", second), ("o", third)], "abc")
        self.assertEqual(len(lexer), 15)

    def test_very_many_tuples(self):
        given = [word("r" + "abcdef"[at], ("row", A, ("again", ("row",) + (AB,) * length, 0, None)))
                 for at, length in enumerate((4, 5, 6, 7, 8, 9))]
        self.too_large([("m", given)], "mode")

    def test_far_too_many_tuples(self):
        """Three rules tell the last five characters, three count in fours: 6 ** 5 * 4 ** 3 tuples."""
        anything = ("set", "abcdef")
        given = [word("w" + name, ("row", ("again", anything, 0, None), ("set", name), ("again", anything, 4, 4)))
                 for name in ("abc", "ade", "bdf")]
        for name in "abc":
            others = ("set", "abcdef".replace(name, ""))
            one = (("again", others, 0, None), ("set", name))
            fours = ("again", ("row",) + one * 4, 0, None)
            given.append(word("n" + name, ("row", fours, others, ("again", others, 0, None))))
        before = time.process_time()
        self.too_large([("m", given)], "mode", "abcdef")
        self.assertLess(time.process_time() - before, 2)


class Sequences(Checks):

    def test_tuples_and_lists_alike(self):
        rule, other = word("x", AAB, ("go", "n")), gap("y", B, ("enter", "m"))
        expected = Lexer("ab", (("m", (rule, other)), ("n", ())))
        for outer in (tuple, list):
            for mode in (tuple, list):
                for inner in (tuple, list):
                    for last in (tuple, list):
                        modes = outer([mode(["m", inner([last(rule), last(other)])]), mode(["n", inner([])])])
                        before = copy.deepcopy(modes)
                        lexer = Lexer("ab", modes)
                        self.assertEqual(lexer, expected)
                        self.assertEqual(lexer.rules("m"), [rule, other])
                        self.assertEqual([type(found) for found in lexer.rules("m")], [tuple, tuple])
                        self.assertEqual(modes, before)

    def test_only_the_rule_itself_may_be_a_list(self):
        self.rejects([("m", [["x", list(A), True, STAY]])], "pattern", 0, 0)
        self.rejects([("m", [["x", ("row", list(A)), True, STAY]])], "pattern", 0, 0)
        self.rejects([("m", [["x", A, True, list(STAY)]])], "action", 0, 0)
        self.rejects([("m", [[["x"], A, True, STAY]])], "name", 0, 0)
        self.rejects([(["m"], [["x", A, True, STAY]])], "mode", 0)
        self.rejects([("m", [])], "alphabet", alphabet=["a"])

    def test_lists_that_are_changed_later(self):
        rule = ["x", A, True, STAY]
        rules_given = [rule, ["y", B, False, LEAVE]]
        mode = ["m", rules_given]
        modes = [mode, ["n", []]]
        lexer = Lexer("ab", modes)
        twin = Lexer("ab", [("m", [word("x", A), gap("y", B, LEAVE)]), ("n", [])])
        rule[0], rule[1], rule[2], rule[3] = "z", B, False, ("go", "n")
        rules_given.append(["w", A, True, STAY])
        rules_given[1] = ["v", A, True, STAY]
        mode[0] = "k"
        modes.pop()
        self.assertEqual(lexer, twin)
        self.assertEqual(len(lexer), 2)
        self.assertEqual(lexer.mode_names(), ["m", "n"])
        self.assertEqual(lexer.rules("m"), [("x", A, True, STAY), ("y", B, False, LEAVE)])
        self.assertEqual(lexer.automaton("m"), twin.automaton("m"))


if __name__ == "__main__":
    unittest.main()
