"""Points 6, 7 and 9: which values are patterns."""

import copy
import unittest

from cutscribe.patterns import is_pattern
from tests import reference

A = ("set", "a")
B = ("set", "b")
AB = ("set", "ab")
WORDS = ("row", "any", "all")


def row_of(many, part=A):
    return ("row",) + (part,) * many


def nots(many, part=A):
    return part if many == 0 else ("not", nots(many - 1, part))


class Checks(unittest.TestCase):

    def accepts(self, value, alphabet="ab"):
        self.assertIs(is_pattern(alphabet, value), True, value)

    def rejects(self, value, alphabet="ab"):
        self.assertIs(is_pattern(alphabet, value), False, value)


class Expressions(Checks):

    def test_examples_of_the_document(self):
        self.accepts(("again", ("set", "a"), 1, None))
        self.rejects(("set", "ba"))

    def test_sets(self):
        for characters in ("", "a", "b", "c", "ab", "ac", "bc", "abc"):
            self.accepts(("set", characters), "abc")
        for characters in ("ba", "cb", "acb", "aa", "abb", "aab", "d", "ad", "abcd", " ", "A"):
            self.rejects(("set", characters), "abc")

    def test_sets_follow_the_order_of_their_alphabet(self):
        self.accepts(("set", "ba"), "ba")
        self.rejects(("set", "ab"), "ba")
        self.accepts(("set", "z_0 -."), "z_0 -.")
        self.accepts(("set", "z -"), "z_0 -.")
        self.rejects(("set", "z- "), "z_0 -.")
        self.accepts(("set", "x"), "x")

    def test_sets_take_one_string(self):
        for value in (("set",), ("set", "a", "b"), ("set", "a", None), ("set", None), ("set", 0), ("set", True),
                      ("set", ()), ("set", ("a",)), ("set", ["a"]), ("set", A), ("set", [])):
            self.rejects(value)

    def test_rows_anys_and_alls_take_any_number_of_parts(self):
        for word in WORDS:
            for parts in ((), (A,), (A, B), (A, B, A), (("row",), ("any",))):
                self.accepts((word,) + parts)

    def test_rows_anys_and_alls_take_only_expressions(self):
        for word in WORDS:
            for wrong in ("a", "", None, 0, True, (), [], ["set", "a"], ("set", "ba"), (A, B), ("a",), (word,) * 2):
                self.rejects((word, wrong))
                self.rejects((word, A, wrong))
                self.rejects((word, wrong, A))
            self.rejects((word, (A, B)))
            self.rejects((word, [A, B]))

    def test_nots_take_one_expression(self):
        self.accepts(("not", A))
        self.accepts(("not", ("not", ("all",))))
        for value in (("not",), ("not", A, B), ("not", A, None), ("not", None), ("not", "a"), ("not", ()),
                      ("not", (A,)), ("not", ["set", "a"]), ("not", ("set", "c"))):
            self.rejects(value)

    def test_agains_take_a_part_and_two_limits(self):
        for value in (("again",), ("again", A), ("again", A, 0), ("again", A, 0, 1, 2), ("again", 0, 1),
                      ("again", 0, 1, A), ("again", A, A, 0, 1), ("again", None, 0, 1), ("again", "a", 0, 1),
                      ("again", (), 0, 1), ("again", ["set", "a"], 0, 1), ("again", ("set", "c"), 0, 1)):
            self.rejects(value)

    def test_limits_of_agains(self):
        for low in range(5):
            self.accepts(("again", A, low, None))
            for high in range(5):
                value = ("again", A, low, high)
                (self.accepts if low <= high else self.rejects)(value)

    def test_limits_beyond_their_bounds(self):
        for low, high in ((-1, None), (5, None), (-1, 0), (5, 5), (4, 5), (0, 5), (0, -1), (10 ** 30, None),
                          (0, 10 ** 30), (-10 ** 30, 4), (1, 0), (4, 3), (None, None), (None, 4), (None, 0)):
            self.rejects(("again", A, low, high))

    def test_limits_of_other_kinds(self):
        for wrong in (True, False, "0", "1", "", (), (1,), [], [1], A):
            self.rejects(("again", A, wrong, None))
            self.rejects(("again", A, wrong, 4))
            self.rejects(("again", A, 0, wrong))
            self.rejects(("row", ("again", A, 0, wrong)))
        self.rejects(("again", A, True, True))
        self.rejects(("again", A, False, False))
        self.rejects(("again", A, 1, True))

    def test_other_words(self):
        for word in ("", "a", "sets", "Set", "SET", " set", "or", "and", "star", "seq", None, 0, 1, True, (), ("set",),
                     ["set"], A):
            for rest in ((), ("a",), (A,), (A, B), (A, 0, None)):
                self.rejects((word,) + rest)

    def test_values_that_are_no_tuples(self):
        for value in (None, 0, 1, -7, True, False, "", "a", "set", "row", [], ["row"], ["set", "a"], [A],
                      ["again", A, 0, None], ["not", A]):
            self.rejects(value)
        self.rejects(())
        self.rejects(((),))
        self.rejects((A,))
        self.rejects((A, B))

    def test_lists_do_not_count_at_any_depth(self):
        wrong = ["set", "a"]
        for _ in range(6):
            self.rejects(wrong)
            self.rejects(("any", B, wrong))
            wrong = ("any", wrong)
        self.rejects(("again", ["row"], 0, None))
        self.rejects(("not", ("not", ["row"])))
        self.rejects(("row", A, ("row", B, ("any", ["set", "a"]))))

    def test_every_small_expression_as_the_document_says(self):
        for value in reference.small_expressions():
            self.assertIs(is_pattern("ab", value), reference.is_pattern("ab", value), value)


class Depth(Checks):

    def test_deeply_nested_values(self):
        values = [A, (), [], "a", None, ("set", "c"), ["set", "a"]]
        for depth in range(1, 120):
            values = [("not", value) if depth % 2 else ("any", value) for value in values]
            (self.accepts if depth <= 19 else self.rejects)(values[0])
            for wrong in values[1:]:
                self.rejects(wrong)

    def test_values_nested_deeper_than_recursion_reaches(self):
        for word in ("row", "any", "all", "not", "set"):
            value = A
            for _ in range(5000):
                value = (word, value)
            self.rejects(value)
        value = A
        for _ in range(5000):
            value = ("again", value, 0, None)
        self.rejects(value)
        value = ()
        for _ in range(5000):
            value = (value,)
        self.rejects(value)

    def test_values_with_many_parts(self):
        self.rejects(("row",) + (A,) * 90000)
        self.rejects(("any",) + ((),) * 90000)
        self.rejects(("set", "ab" * 40000))


class Width(Checks):
    """Each value has a width of exactly 10; with one more part beside it, or one more in it, of 11."""

    def exact(self, ten, *elevens):
        self.accepts(ten)
        self.rejects(("any", ten, A))
        self.rejects(("all", ten, ("row",)))
        self.rejects(("any", ("set", ""), ten))
        for eleven in elevens:
            self.rejects(eleven)

    def test_rows_anys_and_alls_add_up(self):
        for word in WORDS:
            self.exact((word,) + (A,) * 10, (word,) + (A,) * 11)
            self.exact((word,) + (AB,) * 10, (word,) + (AB,) * 11)
            self.exact((word,) + (("set", ""),) * 10, (word,) + (("set", ""),) * 11)
        self.exact(("any", row_of(4), ("all", A, A, A), ("any", A, A, A)),
                   ("any", row_of(5), ("all", A, A, A), ("any", A, A, A)))

    def test_parts_without_a_width_of_their_own_count_one(self):
        for word in WORDS:
            for inner in ("row", "any"):
                self.exact((word,) + ((inner,),) * 10, (word,) + ((inner,),) * 11)
        for word in ("any", "all"):
            self.exact((word,) + (("all",),) * 10, (word,) + (("all",),) * 11)
        self.exact(row_of(2, ("again", row_of(0), 4, None)))
        self.exact(("row", row_of(9), ("row", ("row", ("row",)))), ("row", row_of(10), ("row", ("row", ("row",)))))

    def test_a_not_is_as_wide_as_its_part(self):
        self.exact(("not", row_of(10)), ("not", row_of(11)))
        self.exact(nots(5, row_of(10)), nots(5, row_of(11)))
        self.exact(("all", ("not", row_of(9)), ("not", A)), ("all", ("not", row_of(9)), ("not", row_of(2))))

    def test_an_again_with_a_high_is_high_times_as_wide(self):
        self.exact(("again", row_of(5), 0, 2), ("any", row_of(3), ("again", A, 0, 4), ("again", A, 4, 4)))
        self.exact(("again", row_of(5), 1, 2), ("again", row_of(6), 1, 2))
        self.exact(("again", row_of(5), 2, 2), ("again", row_of(4), 2, 3))
        self.exact(("again", row_of(10), 0, 1), ("again", row_of(11), 0, 1))
        self.exact(("again", row_of(10), 1, 1), ("again", row_of(11), 1, 1))
        self.exact(("row", ("again", row_of(3), 2, 3), A), ("row", ("again", row_of(3), 2, 3), A, A))
        self.exact(("row", ("again", row_of(2), 3, 4), AB, AB), ("again", row_of(3), 0, 4))

    def test_an_again_with_a_high_of_zero_is_as_wide_as_its_part(self):
        self.exact(("again", row_of(10), 0, 0), ("again", row_of(11), 0, 0))
        self.exact(("row", ("again", row_of(9), 0, 0), A), ("row", ("again", row_of(9), 0, 0), A, A))

    def test_an_again_without_a_high_is_low_plus_one_times_as_wide(self):
        self.exact(("again", row_of(10), 0, None), ("again", row_of(11), 0, None))
        self.exact(("again", row_of(5), 1, None), ("again", row_of(6), 1, None))
        self.exact(("row", ("again", row_of(3), 2, None), A), ("again", row_of(4), 2, None))
        self.exact(("row", ("again", row_of(2), 3, None), A, A), ("again", row_of(3), 3, None))
        self.exact(("again", row_of(2), 4, None), ("row", A, ("again", row_of(2), 4, None)))

    def test_agains_within_agains_multiply(self):
        self.exact(("again", ("again", A, 4, None), 0, 2), ("row", A, ("again", ("again", A, 4, None), 2, 2)))
        self.exact(("again", ("again", A, 0, 2), 4, None), ("again", ("again", A, 0, 3), 3, 4))
        self.exact(("again", ("again", ("again", row_of(5), 1, 2), 0, 1), 0, None),
                   ("again", ("again", ("again", row_of(3), 1, 2), 0, 2), 0, None))
        self.rejects(("again", ("again", ("again", ("again", A, 4, 4), 4, 4), 4, 4), 4, 4))


class Tuples(Checks):

    def test_exactly_twenty_and_one_more(self):
        self.accepts(nots(19))
        self.rejects(nots(20))
        chain = ("any",)
        for _ in range(19):
            chain = ("row", chain)
        self.accepts(chain)
        self.rejects(("row", chain))

    def test_every_occurrence_counts(self):
        twice = ("again", A, 0, 1)
        self.accepts(("row",) + (twice,) * 9 + (A,))
        self.rejects(("row",) + (twice,) * 10)
        self.rejects(("any", ("row",) + (twice,) * 9 + (A,)))
        self.rejects(("not", ("all",) + (twice,) * 9 + (A,)))
        three = ("row", ("again", A, 1, 1))
        self.accepts(("any",) + (three,) * 6 + (A,))
        self.rejects(("any",) + (three,) * 6 + (twice,))

    def test_tuples_in_agains_count(self):
        chain = A
        for _ in range(19):
            chain = ("again", chain, 0, None)
        self.accepts(chain)
        self.rejects(("again", chain, 0, None))


class Plain(Checks):

    def test_an_all_or_a_not_within_a_row_or_an_again(self):
        for wrong in (("all",), ("all", A), ("not", A), ("not", ("row",)), ("any", ("not", A)), ("any", A, ("all",)),
                      ("any", ("any", ("any", ("all", A, B))))):
            self.accepts(wrong)
            self.rejects(("row", wrong))
            self.rejects(("row", A, B, wrong))
            self.rejects(("row", ("row", wrong)))
            self.rejects(("row", ("any", A, wrong)))
            self.rejects(("row", ("again", wrong, 0, None)))
            self.rejects(("again", wrong, 0, None))
            self.rejects(("again", wrong, 0, 0))
            self.rejects(("again", ("any", wrong), 1, 1))
            self.rejects(("again", ("again", wrong, 0, 1), 0, 1))
            self.rejects(("again", ("row", wrong), 0, None))
            self.rejects(("any", A, ("row", wrong)))
            self.rejects(("all", ("not", ("again", wrong, 0, None))))
            self.rejects(("not", ("any", ("row", A, ("any", B, wrong)))))

    def test_an_all_or_a_not_elsewhere(self):
        self.accepts(("all", row_of(2), ("not", ("again", A, 0, None))))
        self.accepts(("any", ("all", A), ("not", B), ("row", A)))
        self.accepts(("not", ("all", ("not", ("any", ("all", row_of(3)))))))
        self.accepts(("any", ("row", ("any", A)), ("all", ("again", ("any", A, B), 0, None))))


class Calls(Checks):

    def test_arguments_do_not_change_and_a_second_call_is_equal(self):
        values = [["row", A], ("any", [A, B]), ("row", ("set", ["a"])), ("again", A, [0], [None, [1]]), [[], [[]]]]
        before = copy.deepcopy(values)
        for value in values:
            self.rejects(value)
            self.rejects(value)
        self.assertEqual(values, before)
        self.accepts(("again", A, 1, None))
        self.accepts(("again", A, 1, None))


if __name__ == "__main__":
    unittest.main()
