"""Points 11, 14 and 16 to 19: what a lexer tells of itself."""

import unittest

from cutscribe.errors import CutError, UnknownMode
from cutscribe.lexers import Lexer
from tests import lexing, reference
from tests.lexing import A, AAB, AB, A_PLUS, B, C, LEAVE, STAY, built, gap, word
from tests.test_automata import Checks

SMALL = [("ab", [("m", [word("x", pattern), gap("y", ("again", AB, 2, 3))])])
         for pattern in reference.small_patterns()[::3] if "" not in reference.language("ab", pattern, 0)]


def written_otherwise(given):
    """Equal lexers from tuples alone, from lists as far as they are allowed, and from both."""
    alphabet, modes = given
    return [Lexer(alphabet, tuple((name, tuple(rules)) for name, rules in modes)),
            Lexer(alphabet, [[name, [list(rule) for rule in rules]] for name, rules in modes]),
            Lexer(alphabet, [(name, tuple(list(rule) for rule in rules)) for name, rules in modes])]


class Fields(unittest.TestCase):

    def test_examples_of_the_document(self):
        lexer = built(lexing.DOCUMENT)
        self.assertEqual(lexer.alphabet, "ab")
        self.assertEqual(lexer.mode_names(), ["main"])
        self.assertEqual(lexer.rules("main")[2], ("g", ("set", "b"), False, ("stay",)))
        self.assertEqual(lexer.automaton("main"), (((1, 2), (3, 4), (4, 4), (4, 5), (4, 4), (4, 4)),
                                                   (None, 0, 2, None, None, 1)))
        self.assertIs(lexer.is_flat(), True)
        self.assertEqual(len(lexer), 3)

    def test_names_and_rules_are_those_that_were_given(self):
        for given in lexing.ALL:
            lexer = built(given)
            self.assertEqual(lexer.alphabet, given[0])
            self.assertEqual(lexer.mode_names(), [name for name, _ in given[1]])
            self.assertEqual(len(lexer), sum(len(rules) for _, rules in given[1]))
            for name, rules in given[1]:
                self.assertEqual(lexer.rules(name), rules)
                self.assertIs(type(lexer.rules(name)), list)
                for rule in lexer.rules(name):
                    self.assertEqual([type(part) for part in rule], [str, tuple, bool, tuple])

    def test_names_stand_in_the_order_of_the_modes(self):
        lexer = Lexer("a", [("z", []), ("b", [word("k", A), word("c", A)]), ("m", []), ("a", [])])
        self.assertEqual(lexer.mode_names(), ["z", "b", "m", "a"])
        self.assertEqual([rule[0] for rule in lexer.rules("b")], ["k", "c"])

    def test_modes_without_rules(self):
        lexer = Lexer("abc", [("m", []), ("n", ())])
        self.assertEqual(len(lexer), 0)
        for name in ("m", "n"):
            self.assertEqual(lexer.rules(name), [])
            self.assertEqual(lexer.automaton(name), (((0, 0, 0),), (None,)))
        self.assertIs(lexer.is_flat(), True)

    def test_returned_lists_are_new_ones(self):
        lexer = built(lexing.TURNS)
        names = lexer.mode_names()
        names.append("more")
        names[0] = "none"
        rules = lexer.rules("one")
        rules.pop()
        rules[0] = None
        self.assertEqual(lexer.mode_names(), ["one", "two", "none"])
        self.assertEqual(lexer.rules("one"), lexing.TURNS[1][0][1])
        self.assertEqual(lexer, built(lexing.TURNS))
        lexer.rules("none").append(("x", A, True, STAY))
        self.assertEqual(lexer.rules("none"), [])
        self.assertEqual(len(lexer), 6)

    def test_unknown_modes(self):
        for given in lexing.ALL:
            lexer = built(given)
            for name in ("", "x", "Main", "mai", "mainn", "main ", "a" * 400, "two words"):
                for call in (lexer.rules, lexer.automaton):
                    with self.assertRaises(UnknownMode) as held:
                        call(name)
                    self.assertEqual(held.exception.name, name)
                    self.assertIsInstance(held.exception, CutError)

    def test_a_rule_is_no_mode(self):
        with self.assertRaises(UnknownMode):
            built(lexing.DOCUMENT).rules("x")


class Flat(unittest.TestCase):

    def test_each_of_the_four_actions(self):
        for action, flat in ((STAY, True), (("go", "m"), True), (("go", "n"), True), (("enter", "m"), False),
                             (("enter", "n"), False), (LEAVE, False)):
            first = [("m", [word("x", A, action)]), ("n", [])]
            last = [("m", [word("x", A), gap("y", B, ("go", "n"))]), ("n", [word("z", A), gap("u", B, action)])]
            for modes in (first, last):
                self.assertIs(Lexer("ab", modes).is_flat(), flat)

    def test_samples(self):
        for given in lexing.ALL:
            self.assertIs(built(given).is_flat(), given in lexing.FLAT)


class Automata(Checks):

    def check_automaton(self, given, name, most):
        """Kinds, order and size are right, and each text of at most so many characters leads to its mark."""
        alphabet, modes = given
        rules = dict(modes)[name]
        both = built(given).automaton(name)
        self.assertIs(type(both), tuple)
        rows, marks = both
        self.assertEqual([type(rows), type(marks)], [tuple, tuple])
        self.assertEqual(len(rows), len(marks))
        for row in rows:
            self.assertIs(type(row), tuple)
            self.assertEqual(len(row), len(alphabet))
        for mark in marks:
            self.assertIn(type(mark), (int, type(None)))
        self.check_order(rows)
        self.check_no_two_alike(rows, marks)
        languages = [reference.language(alphabet, rule[1], most) for rule in rules]
        for text in reference.texts(alphabet, most):
            state = 0
            for character in text:
                state = rows[state][alphabet.index(character)]
            first = next((index for index, language in enumerate(languages) if text in language), None)
            self.assertEqual(marks[state], first, text)

    def test_samples(self):
        for given in lexing.ALL:
            for name, _ in given[1]:
                self.check_automaton(given, name, 6)

    def test_small_patterns(self):
        for given in SMALL:
            self.check_automaton(given, "m", 4)

    def test_the_first_rule_wins(self):
        ab = ("row", A, B)
        first = Lexer("ab", [("m", [word("x", ab), word("y", ("again", AB, 2, 2)), word("z", ab)])])
        later = Lexer("ab", [("m", [word("y", ("again", AB, 2, 2)), word("x", ab), word("z", ab)])])
        self.assertEqual(first.automaton("m"), (((1, 2), (3, 4), (3, 3), (5, 5), (5, 5), (5, 5)),
                                                (None, None, None, 1, 0, None)))
        self.assertEqual(later.automaton("m"), (((1, 1), (2, 2), (3, 3), (3, 3)), (None, None, 0, None)))

    def test_rules_that_never_apply(self):
        nothing = (((0, 0),), (None,))
        self.assertEqual(built(lexing.NEVER_MATCHED).automaton("main"), nothing)
        self.assertEqual(built(lexing.EVERYTHING).automaton("main"), (((1, 1), (1, 1)), (None, 0)))

    def test_the_numbers_follow_the_order_of_the_alphabet(self):
        rules = [word("x", A), word("y", B)]
        self.assertEqual(Lexer("ab", [("m", rules)]).automaton("m"), (((1, 2), (3, 3), (3, 3), (3, 3)),
                                                                      (None, 0, 1, None)))
        self.assertEqual(Lexer("ba", [("m", rules)]).automaton("m"), (((1, 2), (3, 3), (3, 3), (3, 3)),
                                                                      (None, 1, 0, None)))

    def test_calls_are_repeated_with_equal_values(self):
        for given in lexing.ALL:
            lexer = built(given)
            for name in lexer.mode_names():
                self.assertEqual(lexer.automaton(name), lexer.automaton(name))
                self.assertEqual(lexer.rules(name), lexer.rules(name))
            self.assertEqual(lexer.mode_names(), lexer.mode_names())


class Equality(unittest.TestCase):

    def equal(self, one, other):
        self.assertIs(one == other, True)
        self.assertIs(one != other, False)
        self.assertIs(other == one, True)

    def different(self, one, other):
        self.assertIs(one == other, False)
        self.assertIs(one != other, True)
        self.assertIs(other == one, False)

    def test_the_same_modes_written_otherwise(self):
        for given in lexing.ALL:
            for one in written_otherwise(given):
                self.equal(one, one)
                for other in written_otherwise(given):
                    self.equal(one, other)

    def test_lexers_that_differ_in_one_thing(self):
        base = [("m", [word("x", A, ("go", "n")), gap("y", B)]), ("n", [word("z", AB)])]
        last = [("n", [word("z", AB)])]
        others = [
            [("m", [word("v", A, ("go", "n")), gap("y", B)])] + last,
            [("m", [word("x", AB, ("go", "n")), gap("y", B)])] + last,
            [("m", [word("x", ("row", A), ("go", "n")), gap("y", B)])] + last,
            [("m", [gap("x", A, ("go", "n")), gap("y", B)])] + last,
            [("m", [word("x", A, ("go", "m")), gap("y", B)])] + last,
            [("m", [word("x", A, ("enter", "n")), gap("y", B)])] + last,
            [("m", [word("x", A), gap("y", B)])] + last,
            [("m", [gap("y", B), word("x", A, ("go", "n"))])] + last,
            [("m", [word("x", A, ("go", "n"))])] + last,
            [("m", [word("x", A, ("go", "n"))]), ("n", [gap("y", B), word("z", AB)])],
            [("k", [word("x", A, ("go", "n")), gap("y", B)])] + last,
            last + [("m", [word("x", A, ("go", "n")), gap("y", B)])],
            base + [("o", [])],
            [("m", base[0][1]), ("n", [])],
            [("m", base[0][1]), ("n", [word("z", AB), word("w", A)])],
        ]
        lexers = [Lexer("ab", modes) for modes in [base] + others] + [Lexer("abc", base)]
        for at, one in enumerate(lexers):
            for index, other in enumerate(lexers):
                (self.equal if at == index else self.different)(one, other)

    def test_the_order_of_the_alphabet_counts(self):
        modes = [("m", [word("x", A), gap("y", B)])]
        self.different(Lexer("ab", modes), Lexer("ba", modes))
        self.equal(Lexer("ba", modes), Lexer("ba", modes))
        self.different(Lexer("ab", [("m", [])]), Lexer("ac", [("m", [])]))

    def test_lexers_that_read_alike_may_be_different(self):
        self.different(Lexer("ab", [("m", [word("x", ("any", A, B))])]), Lexer("ab", [("m", [word("x", AB)])]))

    def test_other_values(self):
        lexer = built(lexing.DOCUMENT)
        for other in (None, 0, 1, 3, True, False, "", "ab", [], (), ["main"], lexing.DOCUMENT, [lexer], (lexer,),
                      lexer.mode_names(), lexer.automaton("main"), Lexer, Lexer("ab", [("main", [])])):
            self.different(lexer, other)
        empty = Lexer("a", [("m", [])])
        for other in (0, False, None, [], (), ""):
            self.different(empty, other)

    def test_lexers_are_found_in_lists(self):
        lexer, twin = built(lexing.DOCUMENT), built(lexing.DOCUMENT)
        self.assertIn(lexer, [None, "ab", twin])
        self.assertNotIn(lexer, [None, built(lexing.WITHOUT_Y), 3, "main"])
        self.assertEqual([0, None, twin].index(lexer), 2)
        self.assertEqual([twin, lexer, 1].count(lexer), 2)

    def test_the_number_of_rules(self):
        self.assertEqual(len(Lexer("c", [("m", []), ("n", [word("x", C)]), ("o", [word("y", C), gap("z", C)])])), 3)
        rules = [word("abcdef"[at], A_PLUS if at % 2 else AAB) for at in range(6)]
        self.assertEqual(len(Lexer("ab", [("m", rules)])), 6)


if __name__ == "__main__":
    unittest.main()
