"""Points 56 to 62: workspaces, their changes, undo and redo."""

import random
import time
import unittest

from cutscribe.documents import Document
from cutscribe.errors import (
    CutError, Incompatible, InUse, InvalidName, InvalidRange, InvalidText, InvalidWord, NameInUse, NotFlat,
    NothingToRedo,
    NothingToUndo, TooLarge, TooLong, UnknownName, UnknownRule)
from cutscribe.lexers import Lexer
from cutscribe.tokens import tokenize
from cutscribe.workspace import Workspace
from tests import lexing
from tests.lexing import A, B, built, gap, one_mode, word

LEXER, WITHOUT, NESTED = built(lexing.DOCUMENT), built(lexing.WITHOUT_Y), built(lexing.NESTED)
ONLY_A = built(one_mode(word("x", A), alphabet="a"))
WIDER = built(one_mode(word("x", A), gap("g", B), alphabet="bac"))
NOT_NAMES = ["", "A", "Ab", "a1", "abcdefghi", "a b", " a", "a_b", "-", None, True, False, 0, 1, [], (), ["a"], ("a",),
             [["a"]]]
UNKNOWN = ["", "zz", "A", "abcdefghijkl", " ", "a b", "-1"]
X, Y = ("x", "a"), ("y", "aab")


def state(workspace):
    """All that a workspace tells of what it holds."""
    return ([(name, workspace.lexer_of(name)) for name in workspace.lexers()],
            [(name, workspace.uses(name), workspace.document_of(name)) for name in workspace.documents()])


def filled():
    """A workspace with the lexers l, m and only, and the documents d, e and f."""
    workspace = Workspace()
    workspace.define("m", WITHOUT)
    workspace.define("l", LEXER)
    workspace.define("only", ONLY_A)
    workspace.create("e", "l", "aaab")
    workspace.create("d", "l", "ab")
    workspace.create("f", "only", "aa")
    return workspace


def undos(workspace):
    """How many changes can be taken back, counted on a copy."""
    return counted(workspace.copy().undo, NothingToUndo)


def redos(workspace):
    return counted(workspace.copy().redo, NothingToRedo)


def counted(call, error):
    many = 0
    while True:
        try:
            call()
        except error:
            return many
        many += 1


class Checks(unittest.TestCase):

    def refuses(self, workspace, call, kind, **fields):
        """The call raises, twice, and changes nothing, also not what can be taken back and performed again."""
        before = state(workspace), undos(workspace), redos(workspace)
        for _ in range(2):
            with self.assertRaises(kind) as held:
                call()
            self.assertEqual(type(held.exception), kind)
            for field, value in fields.items():
                self.assertEqual(getattr(held.exception, field), value)
                self.assertIs(type(getattr(held.exception, field)), type(value))
            self.assertIsInstance(held.exception, CutError)
            self.assertEqual((state(workspace), undos(workspace), redos(workspace)), before)

    def changes(self, workspace, call, expected=None):
        """The call returns what is expected and is a change: undo takes it back, redo performs it again."""
        before, many = state(workspace), undos(workspace)
        self.assertEqual(call(), expected)
        after = state(workspace)
        self.assertEqual((undos(workspace), redos(workspace)), (many + 1, 0))
        self.assertIsNone(workspace.undo())
        self.assertEqual(state(workspace), before)
        self.assertIsNone(workspace.redo())
        self.assertEqual(state(workspace), after)


class Examples(Checks):

    def test_examples_of_the_document(self):
        w = Workspace()
        with self.assertRaises(InvalidName) as held:
            w.define("X", LEXER)
        self.assertEqual(held.exception.name, "X")
        with self.assertRaises(UnknownName) as held:
            w.remove("ab")
        self.assertEqual(held.exception.name, "ab")
        self.assertIsNone(w.define("l", LEXER))
        self.assertIsNone(w.create("d", "l", "ab"))
        self.assertEqual(w.edit("d", 2, 2, "a"), [(0, 0), (1, 1)])
        w.undo()
        self.assertEqual(w.document_of("d").text(), "ab")
        self.assertEqual(w.uses("d"), "l")

    def test_an_empty_workspace(self):
        workspace = Workspace()
        self.assertEqual([workspace.lexers(), workspace.documents()], [[], []])
        self.refuses(workspace, workspace.undo, NothingToUndo)
        self.refuses(workspace, workspace.redo, NothingToRedo)
        for name in UNKNOWN + ["l", "d"]:
            for call in (workspace.lexer_of, workspace.document_of, workspace.uses, workspace.remove, workspace.close,
                         lambda name: workspace.edit(name, 0, 0, ""),
                         lambda name: workspace.substitute(name, 0, 0, [])):
                self.refuses(workspace, lambda: call(name), UnknownName, name=name)
        self.refuses(workspace, lambda: workspace.create("d", "l"), UnknownName, name="l")
        self.assertEqual(state(workspace.copy()), ([], []))


class Lexers(Checks):

    def test_define(self):
        workspace = Workspace()
        self.changes(workspace, lambda: workspace.define("l", LEXER))
        self.changes(workspace, lambda: workspace.define("abcdefgh", NESTED))
        self.changes(workspace, lambda: workspace.define("m", LEXER))
        self.assertEqual(workspace.lexers(), ["abcdefgh", "l", "m"])
        self.assertEqual([workspace.lexer_of(name) for name in workspace.lexers()], [NESTED, LEXER, LEXER])

    def test_define_in_place_of_an_earlier_one(self):
        workspace = filled()
        self.changes(workspace, lambda: workspace.define("l", WITHOUT))
        self.assertEqual(workspace.lexer_of("l"), WITHOUT)
        for name, text in (("d", "ab"), ("e", "aaab")):
            self.assertEqual(workspace.document_of(name), Document(WITHOUT, text))
            self.assertEqual(workspace.document_of(name).tokens(), tokenize(WITHOUT, text))
            self.assertEqual(workspace.uses(name), "l")
        self.assertEqual(workspace.document_of("f"), Document(ONLY_A, "aa"))
        workspace.undo()
        self.assertEqual(workspace.document_of("e").tokens(), tokenize(LEXER, "aaab"))
        workspace.redo()
        self.assertEqual(workspace.document_of("e").tokens(), tokenize(WITHOUT, "aaab"))
        self.assertEqual(workspace.edit("e", 4, 4, "b"), [(0, 0), (1, 1), (2, 2), (3, 3)])

    def test_an_equal_lexer_is_a_change_too(self):
        workspace = filled()
        self.changes(workspace, lambda: workspace.define("l", built(lexing.DOCUMENT)))

    def test_define_with_another_alphabet(self):
        workspace = filled()
        self.changes(workspace, lambda: workspace.define("l", WIDER))
        self.assertEqual(workspace.document_of("e"), Document(WIDER, "aaab"))
        self.changes(workspace, lambda: workspace.define("only", LEXER))
        self.assertEqual(workspace.edit("d", 2, 2, "c"), [(0, 0), (1, 1)])
        self.refuses(workspace, lambda: workspace.define("l", LEXER), Incompatible, document="d")

    def test_incompatible_texts(self):
        workspace = filled()
        self.refuses(workspace, lambda: workspace.define("l", ONLY_A), Incompatible, document="d")
        workspace.edit("d", 1, 2, "")
        self.refuses(workspace, lambda: workspace.define("l", ONLY_A), Incompatible, document="e")
        workspace.close("e")
        self.changes(workspace, lambda: workspace.define("l", ONLY_A))
        self.assertEqual(workspace.document_of("d"), Document(ONLY_A, "a"))
        self.refuses(workspace, lambda: workspace.define("l", Lexer("b", [("m", [])])), Incompatible, document="d")
        workspace.edit("d", 0, 1, "")
        self.changes(workspace, lambda: workspace.define("l", Lexer("b", [("m", [])])))

    def test_the_first_incompatible_document_in_the_order_of_names(self):
        workspace = Workspace()
        workspace.define("l", LEXER)
        for name, text in (("z", "b"), ("y", "a"), ("x", "b"), ("b", "a"), ("aa", "ab"), ("a", "a")):
            workspace.create(name, "l", text)
        self.refuses(workspace, lambda: workspace.define("l", ONLY_A), Incompatible, document="aa")
        self.refuses(workspace, lambda: workspace.define("l", Lexer("b", [("m", [])])), Incompatible, document="a")

    def test_documents_of_other_lexers_do_not_count(self):
        workspace = filled()
        self.changes(workspace, lambda: workspace.define("m", ONLY_A))
        self.changes(workspace, lambda: workspace.define("d", ONLY_A))
        self.assertEqual(workspace.uses("d"), "l")

    def test_remove(self):
        workspace = filled()
        self.changes(workspace, lambda: workspace.remove("m"))
        self.assertEqual(workspace.lexers(), ["l", "only"])
        self.refuses(workspace, lambda: workspace.remove("m"), UnknownName, name="m")
        self.refuses(workspace, lambda: workspace.lexer_of("m"), UnknownName, name="m")
        self.refuses(workspace, lambda: workspace.remove("l"), InUse, document="d")
        workspace.close("d")
        self.refuses(workspace, lambda: workspace.remove("l"), InUse, document="e")
        workspace.close("e")
        self.changes(workspace, lambda: workspace.remove("l"))
        self.assertEqual(workspace.lexers(), ["only"])

    def test_names_that_are_none(self):
        workspace = filled()
        for name in NOT_NAMES:
            self.refuses(workspace, lambda: workspace.define(name, LEXER), InvalidName, name=name)
            self.refuses(workspace, lambda: workspace.define(name, ONLY_A), InvalidName, name=name)


class Documents(Checks):

    def test_create_and_close(self):
        workspace = filled()
        self.changes(workspace, lambda: workspace.create("a", "m", "abba"))
        self.changes(workspace, lambda: workspace.create("abcdefgh", "l"))
        self.assertEqual(workspace.documents(), ["a", "abcdefgh", "d", "e", "f"])
        self.assertEqual(workspace.document_of("a"), Document(WITHOUT, "abba"))
        self.assertEqual(workspace.document_of("abcdefgh"), Document(LEXER, ""))
        self.assertEqual([workspace.uses(name) for name in workspace.documents()], ["m", "l", "l", "l", "only"])
        self.changes(workspace, lambda: workspace.close("a"))
        self.refuses(workspace, lambda: workspace.close("a"), UnknownName, name="a")
        self.refuses(workspace, lambda: workspace.document_of("a"), UnknownName, name="a")
        self.refuses(workspace, lambda: workspace.uses("a"), UnknownName, name="a")
        self.changes(workspace, lambda: workspace.create("a", "l", "b"))
        self.assertEqual(workspace.document_of("a"), Document(LEXER, "b"))

    def test_a_lexer_and_a_document_may_have_the_same_name(self):
        workspace = filled()
        self.changes(workspace, lambda: workspace.create("l", "m", "a"))
        self.changes(workspace, lambda: workspace.define("d", NESTED))
        self.assertEqual([workspace.uses("l"), workspace.uses("d")], ["m", "l"])
        self.changes(workspace, lambda: workspace.remove("d"))
        self.changes(workspace, lambda: workspace.close("l"))
        self.assertEqual([workspace.lexers(), workspace.documents()], [["l", "m", "only"], ["d", "e", "f"]])

    def test_errors_of_create(self):
        workspace = filled()
        for name in NOT_NAMES:
            self.refuses(workspace, lambda: workspace.create(name, "no", "%"), InvalidName, name=name)
        self.refuses(workspace, lambda: workspace.create("d", "no", "c"), NameInUse, document="d")
        self.refuses(workspace, lambda: workspace.create("d", "l"), NameInUse, document="d")
        for name in UNKNOWN:
            self.refuses(workspace, lambda: workspace.create("a", name, "c"), UnknownName, name=name)
        self.refuses(workspace, lambda: workspace.create("a", "d", "c"), UnknownName, name="d")
        self.refuses(workspace, lambda: workspace.create("a", "l", "abc"), InvalidText, position=2)
        self.refuses(workspace, lambda: workspace.create("a", "only", "b"), InvalidText, position=0)

    def test_edit(self):
        workspace = filled()
        self.changes(workspace, lambda: workspace.edit("e", 4, 4, "a"), [(0, 0), (1, 1)])
        self.assertEqual(workspace.document_of("e"), Document(LEXER, "aaaba"))
        self.changes(workspace, lambda: workspace.edit("d", 0, 0, ""), [(0, 0), (1, 1)])
        self.changes(workspace, lambda: workspace.edit("f", 0, 2, ""), [])
        self.assertEqual(workspace.document_of("f"), Document(ONLY_A))
        self.assertEqual(workspace.document_of("d"), Document(LEXER, "ab"))

    def test_errors_of_edit(self):
        workspace = filled()
        for name in UNKNOWN + ["l"]:
            self.refuses(workspace, lambda: workspace.edit(name, 9, -1, "c"), UnknownName, name=name)
        self.refuses(workspace, lambda: workspace.edit("d", 3, 9, "c"), InvalidRange, position=3)
        self.refuses(workspace, lambda: workspace.edit("d", 1, 0, "c"), InvalidRange, position=0)
        self.refuses(workspace, lambda: workspace.edit("d", 0, 2, "abc" + "a" * 400), InvalidText, position=2)
        self.refuses(workspace, lambda: workspace.edit("d", 2, 2, "a" * 399), TooLong, length=401)
        self.changes(workspace, lambda: workspace.edit("d", 2, 2, "b" * 398), [(0, 0), (1, 1)])

    def test_substitute(self):
        workspace = filled()
        self.changes(workspace, lambda: workspace.substitute("e", 1, 2, [X]), "a")
        self.assertEqual(workspace.document_of("e").text(), "aa")
        self.changes(workspace, lambda: workspace.substitute("e", 2, 2, (Y, X), most=2000), "aaba")

    def test_most_left_out_is_four_hundred(self):
        workspace = filled()
        workspace.define("n", built(lexing.FOUR_HUNDRED_GAPS))
        workspace.define("o", built(lexing.ONE_MORE_GAP))
        workspace.create("n", "n", "ab")
        workspace.create("o", "o", "ab")
        self.changes(workspace, lambda: workspace.substitute("n", 0, 1, []), "")
        self.refuses(workspace, lambda: workspace.substitute("o", 0, 1, []), TooLarge, what="search")
        self.changes(workspace, lambda: workspace.substitute("o", 0, 1, [], most=401), "")

    def test_an_empty_text_is_a_change_too(self):
        workspace = filled()
        self.changes(workspace, lambda: workspace.substitute("d", 0, 0, []), "")
        self.changes(workspace, lambda: workspace.substitute("d", 1, 2, []), "")
        self.assertEqual(workspace.document_of("d").text(), "a")

    def test_none_is_no_change(self):
        workspace = filled()
        workspace.edit("d", 0, 0, "b")
        workspace.undo()
        before = state(workspace), undos(workspace), redos(workspace)
        self.assertIsNone(workspace.substitute("d", 0, 1, [("x", "aa")]))
        self.assertEqual((state(workspace), undos(workspace), redos(workspace)), before)
        self.assertEqual(redos(workspace), 1)
        workspace.redo()
        self.assertEqual(workspace.document_of("d").text(), "bab")

    def test_errors_of_substitute(self):
        workspace = filled()
        workspace.define("n", NESTED)
        workspace.create("n", "n", "abc")
        for name in UNKNOWN + ["l"]:
            self.refuses(workspace, lambda: workspace.substitute(name, 9, 0, [("z", "")]), UnknownName, name=name)
        self.refuses(workspace, lambda: workspace.substitute("n", 9, 0, [("z", "")]), NotFlat)
        self.refuses(workspace, lambda: workspace.substitute("d", 3, 0, [("z", "")]), InvalidRange, position=3)
        self.refuses(workspace, lambda: workspace.substitute("d", 1, 0, [("z", "")]), InvalidRange, position=0)
        self.refuses(workspace, lambda: workspace.substitute("d", 0, 0, [("z", "")]), UnknownRule, name="z")
        self.refuses(workspace, lambda: workspace.substitute("d", 0, 0, [X, ("x", "")]), InvalidWord, index=1)
        self.refuses(workspace, lambda: workspace.substitute("d", 0, 0, [X], most=1), TooLarge, what="search")
        workspace.edit("d", 0, 2, "ab" * 200)
        self.refuses(workspace, lambda: workspace.substitute("d", 400, 400, [X]), TooLong, length=401)

    def test_errors_of_questions(self):
        workspace = filled()
        for name in UNKNOWN + ["d"]:
            self.refuses(workspace, lambda: workspace.lexer_of(name), UnknownName, name=name)
        for name in UNKNOWN + ["l", "m"]:
            self.refuses(workspace, lambda: workspace.document_of(name), UnknownName, name=name)
            self.refuses(workspace, lambda: workspace.uses(name), UnknownName, name=name)
            self.refuses(workspace, lambda: workspace.close(name), UnknownName, name=name)
        for name in UNKNOWN + ["d", "e"]:
            self.refuses(workspace, lambda: workspace.remove(name), UnknownName, name=name)


class Returned(Checks):

    def test_lists_are_new_and_sorted(self):
        workspace = filled()
        for call, expected in ((workspace.lexers, ["l", "m", "only"]), (workspace.documents, ["d", "e", "f"])):
            first = call()
            self.assertIs(type(first), list)
            self.assertEqual(first, expected)
            first.append("more")
            first.reverse()
            self.assertEqual(call(), expected)
        for name in ("abc", "ab", "b", "a", "z"):
            workspace.define(name, LEXER)
            workspace.create(name, "l")
        self.assertEqual(workspace.lexers(), ["a", "ab", "abc", "b", "l", "m", "only", "z"])
        self.assertEqual(workspace.documents(), ["a", "ab", "abc", "b", "d", "e", "f", "z"])

    def test_documents_are_new_and_independent(self):
        workspace = filled()
        many = undos(workspace)
        one, other = workspace.document_of("e"), workspace.document_of("e")
        one.edit(0, 4, "b")
        one.substitute(0, 0, [X])
        self.assertEqual(other, Document(LEXER, "aaab"))
        self.assertEqual(workspace.document_of("e"), Document(LEXER, "aaab"))
        self.assertEqual(undos(workspace), many)
        workspace.edit("e", 0, 4, "")
        self.assertEqual(other, Document(LEXER, "aaab"))
        workspace.undo()
        self.assertEqual(workspace.document_of("e"), Document(LEXER, "aaab"))

    def test_lists_of_edits_are_new(self):
        workspace = filled()
        found = workspace.edit("e", 4, 4, "a")
        found.append("more")
        workspace.undo()
        self.assertEqual(workspace.edit("e", 4, 4, "a"), [(0, 0), (1, 1)])

    def test_copies(self):
        workspace = filled()
        workspace.edit("d", 0, 0, "b")
        workspace.edit("d", 0, 0, "b")
        workspace.undo()
        other = workspace.copy()
        self.assertIs(type(other), Workspace)
        before = state(workspace)
        self.assertEqual((state(other), undos(other), redos(other)), (before, undos(workspace), 1))
        other.redo()
        self.assertEqual(other.document_of("d").text(), "bbab")
        other.close("d")
        other.remove("m")
        self.assertEqual((state(workspace), redos(workspace)), (before, 1))
        workspace.undo()
        workspace.define("new", NESTED)
        self.assertEqual(other.lexers(), ["l", "only"])
        self.assertEqual(redos(workspace), 0)
        for _ in range(undos(other)):
            other.undo()
        self.assertEqual(state(other), ([], []))
        self.assertEqual(workspace.lexers(), ["l", "m", "new", "only"])

    def test_a_copy_of_a_copy(self):
        workspace = filled()
        one = workspace.copy()
        two = one.copy()
        one.undo()
        two.undo()
        two.undo()
        self.assertEqual([undos(workspace), undos(one), undos(two)], [6, 5, 4])
        self.assertEqual([redos(workspace), redos(one), redos(two)], [0, 1, 2])


class UndoAndRedo(Checks):

    def test_all_changes_are_taken_back_in_turn(self):
        workspace = Workspace()
        states = [state(workspace)]
        for call in (lambda: workspace.define("l", LEXER), lambda: workspace.create("d", "l", "aaab"),
                     lambda: workspace.edit("d", 0, 1, ""), lambda: workspace.substitute("d", 0, 0, [X]),
                     lambda: workspace.create("e", "l"), lambda: workspace.define("l", WITHOUT),
                     lambda: workspace.substitute("e", 0, 0, []), lambda: workspace.close("d"),
                     lambda: workspace.define("m", NESTED), lambda: workspace.create("d", "m", "abc"),
                     lambda: workspace.close("e"), lambda: workspace.remove("l")):
            call()
            states.append(state(workspace))
        for _ in range(2):
            for before in reversed(states[:-1]):
                self.assertIsNone(workspace.undo())
                self.assertEqual(state(workspace), before)
            self.refuses(workspace, workspace.undo, NothingToUndo)
            for after in states[1:]:
                self.assertIsNone(workspace.redo())
                self.assertEqual(state(workspace), after)
            self.refuses(workspace, workspace.redo, NothingToRedo)

    def test_a_new_change_discards_what_has_been_taken_back(self):
        workspace = filled()
        for turn in range(3):
            workspace.edit("d", 0, 0, "a")
        workspace.undo()
        workspace.undo()
        self.assertEqual(redos(workspace), 2)
        workspace.edit("e", 0, 0, "b")
        self.refuses(workspace, workspace.redo, NothingToRedo)
        self.assertEqual([workspace.document_of(name).text() for name in "de"], ["aab", "baaab"])
        workspace.undo()
        workspace.undo()
        self.assertEqual([workspace.document_of(name).text() for name in "de"], ["ab", "aaab"])
        self.assertEqual(redos(workspace), 2)

    def test_a_refused_call_discards_nothing(self):
        workspace = filled()
        workspace.undo()
        for call, kind in ((lambda: workspace.define("X", LEXER), InvalidName),
                           (lambda: workspace.define("l", ONLY_A), Incompatible),
                           (lambda: workspace.remove("zz"), UnknownName), (lambda: workspace.remove("l"), InUse),
                           (lambda: workspace.create("d", "l"), NameInUse),
                           (lambda: workspace.create("x", "l", "c"), InvalidText),
                           (lambda: workspace.close("zz"), UnknownName),
                           (lambda: workspace.edit("d", 5, 5, ""), InvalidRange),
                           (lambda: workspace.substitute("d", 0, 0, [("x", "")]), InvalidWord)):
            self.refuses(workspace, call, kind)
        self.assertIsNone(workspace.substitute("d", 0, 0, [("x", "aa")]))
        workspace.redo()
        self.assertEqual(workspace.document_of("f"), Document(ONLY_A, "aa"))

    def test_questions_are_no_changes(self):
        workspace = filled()
        workspace.undo()
        many = undos(workspace)
        for call in (workspace.lexers, workspace.documents, lambda: workspace.lexer_of("l"),
                     lambda: workspace.document_of("d"), lambda: workspace.uses("d"), workspace.copy):
            call()
            self.assertEqual((undos(workspace), redos(workspace)), (many, 1))

    def test_more_than_a_hundred_changes(self):
        workspace = filled()
        texts = ["ab"]
        before = time.process_time()
        for turn in range(140):
            workspace.edit("d", turn % 2, turn % 2 + turn % 3 // 2, "ab"[turn % 2])
            texts.append(workspace.document_of("d").text())
        for text in reversed(texts[:-1]):
            workspace.undo()
            self.assertEqual(workspace.document_of("d").text(), text)
        for text in texts[1:]:
            workspace.redo()
            self.assertEqual(workspace.document_of("d").text(), text)
        self.assertEqual(undos(workspace), 146)
        self.assertLess(time.process_time() - before, 5)

    def test_three_hundred_changes_of_long_texts(self):
        before = time.process_time()
        workspace = Workspace()
        workspace.define("l", built(lexing.UNLIMITED))
        workspace.create("d", "l", "a" * 400)
        for turn in range(98):
            workspace.edit("d", turn, turn + 1, "ab"[turn % 2])
            workspace.undo()
            workspace.redo()
        self.assertEqual(undos(workspace), 100)
        self.assertLess(time.process_time() - before, 20)

    def test_a_lexer_is_restored_with_its_documents(self):
        workspace = filled()
        workspace.define("l", WIDER)
        workspace.edit("e", 0, 0, "c")
        workspace.undo()
        workspace.undo()
        self.assertEqual(workspace.document_of("e"), Document(LEXER, "aaab"))
        self.assertEqual(workspace.edit("e", 4, 4, "a"), [(0, 0), (1, 1)])
        self.refuses(workspace, workspace.redo, NothingToRedo)


class Model:
    """A second writing of points 56 to 62: all states are kept beside each other, as tuples."""

    def __init__(self):
        self.states, self.now = [((), ())], 0

    def held(self):
        return dict(self.states[self.now][0]), dict(self.states[self.now][1])

    def change(self, lexers, documents):
        self.states = self.states[:self.now + 1] + [(tuple(sorted(lexers.items())), tuple(sorted(documents.items())))]
        self.now += 1

    def move(self, by):
        if not 0 <= self.now + by < len(self.states):
            return False
        self.now += by
        return True


class ManyCalls(Checks):

    LEXERS = [("a", ONLY_A), ("ab", LEXER), ("ab", WITHOUT), ("abc", NESTED), ("bac", WIDER)]

    def same(self, workspace, model):
        lexers, documents = model.held()
        self.assertEqual(workspace.lexers(), sorted(lexers))
        self.assertEqual(workspace.documents(), sorted(documents))
        for name in lexers:
            self.assertEqual(workspace.lexer_of(name), self.LEXERS[lexers[name]][1])
        for name, (used, text) in documents.items():
            self.assertEqual(workspace.uses(name), used)
            self.assertEqual(workspace.document_of(name), Document(self.LEXERS[lexers[used]][1], text))

    def test_random_calls(self):
        for seed in range(30):
            chance = random.Random(seed)
            workspace, model = Workspace(), Model()
            for _ in range(100):
                self.turn(chance, workspace, model)
                self.same(workspace, model)

    def turn(self, chance, workspace, model):
        lexers, documents = model.held()
        lexer, document, text = chance.choice("lmn"), chance.choice("def"), chance.choice(["", "a", "aab", "ab", "cab"])
        kind = chance.choice(["define", "remove", "create", "close", "edit", "edit", "undo", "undo", "redo"])
        users = sorted(name for name in documents if documents[name][0] == lexer)
        if kind in ("undo", "redo"):
            by, error = (-1, NothingToUndo) if kind == "undo" else (1, NothingToRedo)
            self.told(getattr(workspace, kind), None if model.move(by) else error)
        elif kind == "define":
            number = chance.randrange(len(self.LEXERS))
            alphabet, given = self.LEXERS[number]
            wrong = [name for name in users if not set(documents[name][1]) <= set(alphabet)]
            self.told(lambda: workspace.define(lexer, given), Incompatible if wrong else None)
            if not wrong:
                model.change({**lexers, lexer: number}, documents)
        elif kind == "remove":
            expected = UnknownName if lexer not in lexers else InUse if users else None
            self.told(lambda: workspace.remove(lexer), expected)
            if expected is None:
                del lexers[lexer]
                model.change(lexers, documents)
        elif kind == "create":
            expected = NameInUse if document in documents else UnknownName if lexer not in lexers else None
            if expected is None and not set(text) <= set(self.LEXERS[lexers[lexer]][0]):
                expected = InvalidText
            self.told(lambda: workspace.create(document, lexer, text), expected)
            if expected is None:
                model.change(lexers, {**documents, document: (lexer, text)})
        elif kind == "close":
            self.told(lambda: workspace.close(document), None if document in documents else UnknownName)
            if document in documents:
                del documents[document]
                model.change(lexers, documents)
        elif document in documents:
            used, before = documents[document]
            fits = set(text) <= set(self.LEXERS[lexers[used]][0])
            place = chance.randint(0, len(before))
            self.told(lambda: workspace.edit(document, place, len(before), text) and None,
                      None if fits else InvalidText)
            if fits:
                model.change(lexers, {**documents, document: (used, before[:place] + text)})

    def told(self, call, expected):
        if expected is None:
            self.assertIn(call(), (None, []))
        else:
            with self.assertRaises(expected):
                call()


if __name__ == "__main__":
    unittest.main()
