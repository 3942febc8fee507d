"""Points [11], [12] and [13]: which things are programs."""

import copy
import unittest

from ripplewell import programs
from ripplewell.programs import is_program

from helping import emit, value

V = ("value", 1)

# Every expression, by its word, with the kinds of its parts.
EXPRESSIONS = [
    (("value", 5), ["value"]),
    (("var", "x"), ["name"]),
    (("read", "x"), ["name"]),
    (("peek", "x"), ["name"]),
    (("state", "x"), ["name"]),
    (("get", "x", V), ["name", "expression"]),
    (("has", "x", V), ["name", "expression"]),
    (("size", "x"), ["name"]),
    (("use", "x"), ["name"]),
    (("add", V, V), ["expression", "expression"]),
    (("join", V, V), ["expression", "expression"]),
    (("equal", V, V), ["expression", "expression"]),
    (("less", V, V), ["expression", "expression"]),
    (("not", V), ["expression"]),
]

# Every statement likewise.
STATEMENTS = [
    (("let", "x", V), ["name", "expression"]),
    (("if", V, [], []), ["expression", "block", "block"]),
    (("if", V, [emit(1)], [emit(2)]), ["expression", "block", "block"]),
    (("each", "y", "x", [emit(1)]), ["name", "name", "block"]),
    (("try", [emit(1)], "y", [emit(2)]), ["block", "name", "block"]),
    (("raise", V), ["expression"]),
    (("return", V), ["expression"]),
    (("emit", V), ["expression"]),
    (("write", "x", V), ["name", "expression"]),
    (("put", "x", V, V), ["name", "expression", "expression"]),
    (("remove", "x", V), ["name", "expression"]),
    (("reset", "x"), ["name"]),
    (("dispose", "x"), ["name"]),
    (("cleanup", V), ["expression"]),
    (("signal", "y", V), ["name", "expression"]),
    (("store", "y", [("a", V), ("b", V)]), ["name", "pairs"]),
    (("store", "y", []), ["name", "pairs"]),
    (("scope", "y"), ["name"]),
    (("boundary", "y"), ["name"]),
    (("computed", "y", [emit(1)]), ["name", "block"]),
    (("effect", "y", [emit(1)]), ["name", "block"]),
    (("resource", "y", [emit(1)]), ["name", "block"]),
    (("keyed", "y", "x", "z", [emit(1)]), ["name", "name", "name", "block"]),
    (("atomic", [emit(1)], "y", [emit(2)]), ["block", "name", "block"]),
]


class Odd:
    def __eq__(self, other):
        return True

    __hash__ = None


class Angry:
    def refuse(self, *_):
        raise RuntimeError("this was asked of a thing that is no program")

    __eq__ = __ne__ = __len__ = __iter__ = __bool__ = __hash__ = __getitem__ = __contains__ = refuse


class OwnList(list):
    __iter__ = __len__ = __getitem__ = __bool__ = Angry.refuse


class OwnTuple(tuple):
    __len__ = __getitem__ = __bool__ = Angry.refuse


class OwnText(str):
    __hash__ = None
    __eq__ = Angry.refuse


NOTHING = [None, False, True, 0, 1, 999, -1, 1.5, "", "a", "let", b"let", (), {}, set(), {"a": 1}, object(), Odd(),
           Angry(), len, int, range(3), iter([]), OwnList(), OwnTuple(), OwnText("let"), frozenset(), NotImplemented]

# What is none of a kind.
WRONG = {
    "name": ["", "abcdefghi", "A", "aB", "a1", "a b", "a_", "a\n", "\u00e9", b"a", None, 1, True, ("a",), ["a"],
             ("value", 1), OwnText("a"), Angry()],
    "value": [-1, 1000, "x" * 41, 1.0, b"", (), ("value", 1), [], [1], {}, set(), object(), Angry(), OwnText("a")],
    "expression": [None, 1, "a", "value", [], (), ("value",), ("value", 1, 1), ["value", 1], ("values", 1),
                   (1, 2), (None, 1), ("emit", V), ("let", "x", V), (["value"], 1), (Odd(), 1), (("value",), 1),
                   {"value": 1}, Angry(), OwnTuple(("value", 1)), (OwnText("value"), 1)],
    "block": [None, 1, "a", (), (emit(1),), ("emit", V), [None], [1], ["emit"], [[]], [["emit", V]], [V],
              [("emit",)], [("emit", V, V)], {}, set(), [emit(1), None], [()], Angry(), OwnList([emit(1)]),
              [OwnTuple(("emit", V))], [Angry()]],
    "pairs": [None, 1, "a", (), (("a", V),), {"a": V}, [None], [()], [("a",)], [("a", V, V)], [["a", V]],
              [("a", 1)], [("a", None)], [("A", V)], [("", V)], [("abcdefghi", V)], [(1, V)], [(V, V)],
              [("a", V), ("a", V)], [("a", V), ("b", V), ("a", ("value", 2))], ["aV"], [("a", emit(1))],
              [("a", ("value", 1000))], Angry(), OwnList(), [OwnTuple(("a", V))], [(["a"], V)]],
}


def replaced(form, at, thing):
    return form[:at] + (thing,) + form[at + 1:]


def nested(wrap, inner, times):
    for _ in range(times):
        inner = wrap(inner)
    return inner


class IsProgramTest(unittest.TestCase):
    def yes(self, thing):
        self.assertIs(is_program(thing), True, thing)

    def no(self, thing):
        self.assertIs(is_program(thing), False)

    def test_no_statement(self):
        self.yes([])

    def test_things_of_other_kinds(self):
        for thing in NOTHING:
            self.no(thing)
            self.no([thing])
            self.no([emit(1), thing])
            self.no((thing,))

    def test_every_statement_and_every_expression(self):
        for form, _ in STATEMENTS:
            self.yes([form])
            self.yes([form, form])
            self.no(form)
            self.no((form,))
            self.no([form, None])
        for form, _ in EXPRESSIONS:
            self.yes([("emit", form)])
            self.no([form])
            self.no(form)

    def test_every_word_is_known(self):
        self.assertEqual(len({form[0] for form, _ in STATEMENTS}), 22)
        self.assertEqual(len({form[0] for form, _ in EXPRESSIONS}), 14)

    def test_one_part_that_is_none(self):
        for form, kinds in STATEMENTS:
            for at, kind in enumerate(kinds, 1):
                for thing in WRONG[kind]:
                    self.no([replaced(form, at, thing)])
        for form, kinds in EXPRESSIONS:
            for at, kind in enumerate(kinds, 1):
                for thing in WRONG[kind]:
                    self.no([("emit", replaced(form, at, thing))])

    def test_words(self):
        for form, _ in STATEMENTS:
            for word in ("", "lets", "LET", form[0] + "s", form[0] + " ", form[0].upper(), "value", None, 1, b"let",
                         ("let",), ["let"], {}, Odd(), Angry()):
                self.no([replaced(form, 0, word)])
        for form, _ in EXPRESSIONS:
            for word in ("", form[0] + "s", form[0].upper(), "let", "emit", None, 1, ("value",), [], Odd(), Angry()):
                self.no([("emit", replaced(form, 0, word))])

    def test_too_short_too_long_and_lists_for_tuples(self):
        for form, _ in STATEMENTS:
            self.no([form[:-1]])
            self.no([form[1:]])
            self.no([form + (V,)])
            self.no([form + ([],)])
            self.no([list(form)])
            self.no([form[:1]])
        for form, _ in EXPRESSIONS:
            self.no([("emit", form[:-1])])
            self.no([("emit", form + (V,))])
            self.no([("emit", form + (None,))])
            self.no([("emit", list(form))])

    def test_tuples_for_blocks_programs_and_pairs(self):
        for form, kinds in STATEMENTS:
            for at, kind in enumerate(kinds, 1):
                if kind in ("block", "pairs"):
                    self.no([replaced(form, at, tuple(form[at]))])
                    self.yes([replaced(form, at, [])])
        self.no(tuple([emit(1)]))

    def test_values(self):
        for thing in (None, False, True, 0, 999, "", "x" * 40, "\n"):
            self.yes([("emit", ("value", thing))])
        for thing in WRONG["value"]:
            self.no([("emit", ("value", thing))])

    def test_names(self):
        for name in ("a", "z", "abcdefgh", "value", "let"):
            self.yes([("let", name, ("read", name))])
        self.yes([("each", "a", "a", [])])

    def test_pairs_with_equal_keys(self):
        self.yes([("store", "y", [("a", V), ("b", V)])])
        self.no([("store", "y", [("a", V), ("a", V)])])
        self.no([("store", "y", [("a", V), ("b", V), ("a", V)])])

    def test_8_and_9_pairs(self):
        pairs = [(key, V) for key in "abcdefghi"]
        self.yes([("store", "y", pairs[:8])])
        self.no([("store", "y", pairs)])

    def test_pairs_whose_keys_are_no_strings(self):
        for key in (V, ("value", "a"), 1, None, ["a"], b"a"):
            self.no([("store", "y", [(key, V)])])

    def test_depths_of_expressions(self):
        wraps = [lambda e: ("not", e), lambda e: ("add", e, V), lambda e: ("add", V, e), lambda e: ("join", e, V),
                 lambda e: ("equal", V, e), lambda e: ("less", e, V), lambda e: ("get", "x", e),
                 lambda e: ("has", "x", e)]
        for wrap in wraps:
            for inner in (V, ("var", "x"), ("read", "x"), ("size", "x")):
                five, six = nested(wrap, inner, 4), nested(wrap, inner, 5)
                self.yes([("emit", five)])
                self.no([("emit", six)])
                self.no([emit(1), ("put", "x", V, six)])
                self.yes([("store", "y", [("a", five)])])
                self.no([("store", "y", [("a", V), ("b", six)])])

    def test_the_depth_of_expressions_does_not_depend_on_that_of_the_statement(self):
        five = nested(lambda e: ("not", e), V, 4)
        self.yes(nested(lambda block: [("if", five, block, [])], [("emit", five)], 4))

    def test_depths_of_statements(self):
        wraps = [
            lambda block: [("if", V, block, [])],
            lambda block: [("if", V, [], block)],
            lambda block: [("each", "y", "x", block)],
            lambda block: [("try", block, "y", [])],
            lambda block: [("try", [], "y", block)],
            lambda block: [("computed", "y", block)],
            lambda block: [("effect", "y", block)],
            lambda block: [("resource", "y", block)],
            lambda block: [("keyed", "y", "x", "z", block)],
            lambda block: [("atomic", block, "y", [])],
            lambda block: [("atomic", [], "y", block)],
        ]
        for wrap in wraps:
            self.yes(nested(wrap, [emit(1)], 4))
            self.no(nested(wrap, [emit(1)], 5))
            self.yes(nested(wrap, [], 5))
            self.no(nested(wrap, [], 6))
        mixed = [emit(1)]
        for wrap in wraps[:4]:
            mixed = wrap(mixed)
        self.yes(mixed)
        self.no(wraps[6](mixed))

    def test_200_and_201_statements(self):
        self.yes([emit(1)] * 200)
        self.no([emit(1)] * 201)
        self.no([emit(1)] * 100000)

    def test_statements_of_blocks_and_inner_programs_are_counted(self):
        for wrap in (lambda block: ("if", V, block, []), lambda block: ("if", V, [], block),
                     lambda block: ("each", "y", "x", block), lambda block: ("try", block, "y", []),
                     lambda block: ("try", [], "y", block), lambda block: ("computed", "y", block),
                     lambda block: ("effect", "y", block), lambda block: ("resource", "y", block),
                     lambda block: ("keyed", "y", "x", "z", block), lambda block: ("atomic", block, "y", []),
                     lambda block: ("atomic", [], "y", block)):
            self.yes([wrap([emit(1)] * 199)])
            self.no([wrap([emit(1)] * 200)])
            self.yes([wrap([emit(1)] * 99), emit(1)] + [emit(1)] * 99)
            self.no([wrap([emit(1)] * 99), emit(1)] + [emit(1)] * 100)
            self.yes([wrap([wrap([emit(1)] * 198)])])
            self.no([wrap([wrap([emit(1)] * 199)])])
        self.yes([("if", V, [emit(1)] * 100, [emit(1)] * 99)])
        self.no([("if", V, [emit(1)] * 100, [emit(1)] * 100)])
        self.yes([("if", V, [], [])] * 200)
        self.no([("if", V, [], [])] * 201)

    def test_things_that_contain_themselves_or_one_thing_very_often(self):
        block = []
        block.append(("if", V, block, block))
        self.no(block)
        pairs = []
        pairs.append(("a", pairs))
        self.no([("store", "y", pairs)])
        wide = [emit(1)] * 50
        for _ in range(4):
            wide = [("if", V, wide, wide)] * 50
        self.no(wide)
        deep = []
        for _ in range(100000):
            deep = [deep]
        self.no(deep)
        inner = V
        for _ in range(100000):
            inner = ("not", inner)
        self.no([("emit", inner)])
        while deep:
            deep = deep.pop()
        while inner[0] == "not":
            inner = inner[1]

    def test_nothing_is_modified(self):
        program = [form for form, _ in STATEMENTS]
        before = copy.deepcopy(program)
        self.yes(program)
        self.assertEqual(program, before)
        self.assertIs(is_program(thing=program), True)

    def test_home(self):
        self.assertEqual(is_program.__module__, "ripplewell.programs")
        self.assertIs(vars(programs)["is_program"], is_program)
        self.assertEqual(value(1), V)


if __name__ == "__main__":
    unittest.main()
