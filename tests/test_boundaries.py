"""Points [25] and [26]: errors of effects, boundaries, and what is rolled back."""

import unittest

from ripplewell.errors import RippleError
from ripplewell.runtimes import Runtime

from helping import Both, check_what_holds, emit, fail, give, names, read, value

FIRST = ("first",)
V = value(1)


def failing_at(number, *rest):
    return [("if", ("equal", read("s"), value(number)), [fail("bad")], [])] + list(rest)


class BoundaryTest(unittest.TestCase):
    def setUp(self):
        self.runtime = Both()
        self.s = self.runtime.signal(0, 0)

    def effect(self, owner, *program, **numbers):
        return self.runtime.effect(owner, list(program), names(s=self.s, **numbers))

    def active(self):
        return [number for number, entry in enumerate(self.runtime.nodes()) if entry[2]]

    def tearDown(self):
        check_what_holds(self, self.runtime.kept)


class NearestTest(BoundaryTest):
    def test_the_error_goes_to_the_boundary(self):
        b = self.runtime.boundary(0)
        self.assertIs(self.runtime.read(b), None)
        number = self.effect(b, *failing_at(2, emit(read("s"))))
        self.runtime.write(self.s, 2)
        self.assertEqual(self.runtime.runs(), [(number, ("changed", ("value", self.s), ("value", 0), ("value", 2)))])
        self.assertEqual(self.runtime.delivered(), [0])
        self.assertIs(self.runtime.is_disposed(number), True)
        self.assertEqual(self.runtime.reading(("value", b)), ("value", "error bad"))
        self.assertEqual(self.runtime.read(self.s), 2)
        self.assertEqual(self.runtime.dependencies(number), [(("value", self.s), ("value", 0))])

    def test_one_that_never_was_executed(self):
        b = self.runtime.boundary(0)
        number = self.effect(b, emit(1), fail("at once"))
        self.assertEqual(self.runtime.nodes()[number], ("effect", b, False))
        self.assertIs(self.runtime.dependencies(number), None)
        self.assertEqual(self.runtime.runs(), [(number, FIRST)])
        self.assertEqual(self.runtime.read(b), "error at once")
        self.assertEqual(self.runtime.delivered(), [])

    def test_the_message_is_cut(self):
        b = self.runtime.boundary(0)
        self.effect(b, fail("x" * 40))
        self.assertEqual(self.runtime.read(b), "error " + "x" * 34)

    def test_the_nearest_of_nested_boundaries(self):
        outer = self.runtime.boundary(0)
        inner = self.runtime.boundary(self.runtime.scope(outer))
        scope = self.runtime.scope(inner)
        beside = self.effect(outer, emit(read("s")))
        self.effect(scope, *failing_at(2))
        self.runtime.write(self.s, 2)
        self.assertEqual(self.runtime.read(inner), "error bad")
        self.assertIs(self.runtime.read(outer), None)
        self.assertEqual(self.active(), [0, self.s, outer, outer + 1, inner, beside])
        self.effect(outer, *failing_at(2))
        self.assertEqual(self.runtime.read(outer), "error bad")
        self.assertEqual(self.active(), [0, self.s, outer])
        self.assertEqual(self.runtime.reading(("value", inner)), ("error", "disposed"))

    def test_an_inner_boundary_whose_message_comes_too_late(self):
        outer = self.runtime.boundary(0)
        inner = self.runtime.boundary(outer)
        self.effect(inner, *failing_at(2))
        self.effect(outer, *failing_at(2))
        self.runtime.write(self.s, 2)
        self.assertEqual(self.active(), [0, self.s, outer])
        self.assertEqual(self.runtime.read(outer), "error bad")
        self.assertEqual(self.runtime.reading(("value", inner)), ("error", "disposed"))

    def test_a_boundary_that_an_effect_made(self):
        program = [("boundary", "b"), ("try", [("cleanup", read("s"))], "m", [])]
        owner = self.effect(0, *program)
        inner = self.effect(owner + 1, *failing_at(2))
        self.runtime.write(self.s, 1)
        self.assertEqual(self.runtime.delivered(), [0])
        self.assertIs(self.runtime.is_disposed(inner), True)

    def test_a_boundary_inside_of_the_effect_does_not_take_its_error(self):
        with self.assertRaises(RippleError) as caught:
            self.effect(0, ("boundary", "b"), fail("x"))
        self.assertEqual(caught.exception.message, "error x")

    def test_an_effect_of_an_effect(self):
        b = self.runtime.boundary(0)
        number = self.effect(b, emit("outer"), ("effect", "e", failing_at(2, emit("inner"))))
        self.assertEqual(self.runtime.delivered(), ["outer", "inner"])
        self.runtime.write(self.s, 2)
        self.assertEqual(self.active(), [0, self.s, b])
        self.assertEqual(self.runtime.read(b), "error bad")
        self.assertEqual(self.runtime.nodes()[number:], [("effect", b, False), ("effect", number, False)])

    def test_without_a_boundary_among_its_owners(self):
        self.runtime.boundary(0)
        self.effect(self.runtime.scope(0), *failing_at(2))
        with self.assertRaises(RippleError) as caught:
            self.runtime.write(self.s, 2)
        self.assertEqual(caught.exception.message, "error bad")
        self.assertEqual(self.runtime.read(self.s), 0)

    def test_all_other_effects_go_on(self):
        b = self.runtime.boundary(0)
        one = self.effect(0, emit(("join", value("one"), read("s"))))
        self.effect(b, *failing_at(2))
        two = self.effect(0, emit(("join", value("two"), read("s"))))
        self.runtime.write(self.s, 2)
        self.assertEqual(self.runtime.delivered(), ["one0", "two0", "one2", "two2"])
        self.assertEqual([run[0] for run in self.runtime.runs()], [one, one + 1, two])


class RolledBackTest(BoundaryTest):
    def setUp(self):
        BoundaryTest.setUp(self)
        self.b = self.runtime.boundary(0)
        self.t = self.runtime.signal(0, "t")
        self.p = self.runtime.store(0, [("a", 1)])

    def test_writes(self):
        program = [("write", "t", value("new")), ("put", "p", value("b"), V), ("remove", "p", value("a"))]
        self.effect(self.b, *program, fail("x"), t=self.t, p=self.p)
        self.assertEqual(self.runtime.read(self.t), "t")
        self.assertEqual(self.runtime.keys(self.p), ["a"])

    def test_writes_of_others_stay(self):
        self.runtime.transaction(self.b, [
            ("effect", "one", [("write", "t", value("one"))]),
            ("effect", "two", [("write", "t", value("two")), fail("x")]),
            ("effect", "tri", [("put", "p", value("z"), V)])], names(t=self.t, p=self.p))
        self.assertEqual(self.runtime.read(self.t), "one")
        # The third was disposed of ahead of its turn.
        self.assertEqual(self.runtime.keys(self.p), ["a"])

    def test_emits(self):
        self.runtime.transaction(self.b, [
            emit("p"), ("effect", "x", [emit("one")]), ("effect", "y", [emit("two"), fail("x")])], {})
        self.assertEqual(self.runtime.delivered(), ["p", "one"])

    def test_nodes_that_it_made_use_up_their_numbers(self):
        number = self.effect(self.b, ("signal", "y", V), ("scope", "z"), ("computed", "c", [give(read("y"))]),
                             ("let", "v", read("c")), ("effect", "e", []), ("store", "w", []),
                             ("keyed", "k", "w", "key", []), ("resource", "r", []), fail("x"))
        kinds = ["signal", "scope", "computed", "effect", "store", "keyed", "resource"]
        self.assertEqual(self.runtime.nodes()[number:],
                         [("effect", self.b, False)] + [(kind, number, False) for kind in kinds])
        for at, kind in enumerate(kinds, number + 1):
            self.assertIs(self.runtime.is_disposed(at), True)
            if kind in ("computed", "effect", "keyed", "resource"):
                self.assertIs(self.runtime.dependencies(at), None)
        self.assertEqual(self.runtime.reading(("value", number + 1)), ("error", "disposed"))
        self.assertEqual(self.runtime.signal(0, 1), number + 8)

    def test_they_count_for_the_limit_of_the_transaction(self):
        inner = [("scope", "x")] * 10 + [fail("x")]
        program = [("effect", "e", inner)] + [("scope", "y"), ("dispose", "y")] * 9
        self.runtime.transaction(self.b, program, {})
        self.assertEqual(self.runtime.read(self.b), "error x")
        many = len(self.runtime.nodes())
        program = [("effect", "e", inner)] + [("scope", "y"), ("dispose", "y")] * 9 + [
            ("effect", "f", [("scope", "z")])]
        other = self.runtime.boundary(0)
        self.runtime.transaction(other, program, {})
        # f was made ahead of the pass: with e, nine scopes and f, nine more could be made, not ten.
        self.assertEqual(self.runtime.read(other), "too many nodes")
        self.assertEqual(len(self.runtime.nodes()), many + 1 + 11 + 9)

    def test_later_effects_of_the_transaction_have_less_left(self):
        other = self.runtime.boundary(0)
        setting = names(s=self.s)
        self.runtime.effect(self.b, [
            ("if", ("equal", read("s"), value(2)), [("scope", "x")] * 12 + [fail("x")], [])], setting)
        self.runtime.effect(other, [
            ("if", ("equal", read("s"), value(2)), [("scope", "x"), ("dispose", "x")] * 9, [])], setting)
        self.runtime.write(self.s, 2)
        self.assertEqual(self.runtime.read(self.b), "error x")
        self.assertEqual(self.runtime.read(other), "too many nodes")

    def test_they_do_not_count_as_active(self):
        self.runtime.effect(self.b, [("scope", "x")] * 12 + [fail("x")], {})
        for _ in range(19):
            self.runtime.scope(0)
        self.assertEqual(len(self.active()), 24)

    def test_nodes_that_it_disposed_of_are_active_again(self):
        scope = self.runtime.scope(0)
        inner = self.runtime.effect(scope, [("cleanup", value("c")), emit("inner")], {})
        self.runtime.cleanup(scope, "scope")
        self.effect(self.b, ("if", ("equal", read("s"), value(2)), [("dispose", "z"), fail("x")], []), z=scope)
        self.runtime.write(self.s, 2)
        self.assertEqual(self.runtime.delivered(), ["inner"])
        self.assertIs(self.runtime.is_disposed(scope), False)
        self.assertIs(self.runtime.is_disposed(inner), False)
        self.runtime.dispose(scope)
        self.assertEqual(self.runtime.delivered(), ["inner", "c", "scope"])

    def test_effects_that_it_disposed_of_have_their_turn(self):
        scope = self.runtime.scope(0)
        self.effect(self.b, ("if", ("equal", read("s"), value(2)), [("dispose", "z"), fail("x")], []), z=scope)
        later = self.effect(scope, emit(read("s")))
        self.runtime.write(self.s, 2)
        self.assertEqual(self.runtime.delivered(), [0, 2])
        self.assertEqual(self.runtime.runs()[1][0], later)

    def test_cleanups_and_what_it_owned(self):
        """What the execution disposed of at its beginning is active again, and then disposed of with the rest."""
        self.effect(self.b, ("cleanup", ("join", value("own"), read("s"))), ("scope", "z"),
                    ("effect", "e", [("cleanup", value("inner"))]), *failing_at(2), ("cleanup", value("late")))
        self.runtime.cleanup(self.b, "boundary")
        self.assertEqual(self.runtime.delivered(), [])
        self.runtime.write(self.s, 2)
        self.assertEqual(self.runtime.delivered(), ["inner", "late", "own0"])
        self.assertEqual(self.active(), [0, self.s, self.b, self.t, self.p])
        self.runtime.dispose(self.b)
        self.assertEqual(self.runtime.delivered(), ["inner", "late", "own0", "boundary"])

    def test_all_descendants_of_the_boundary_are_disposed_of_the_latest_made_first(self):
        scope = self.runtime.scope(self.b)
        for at, owner in enumerate((self.b, scope, self.b)):
            self.runtime.effect(owner, [("cleanup", value(at))], {})
        self.runtime.cleanup(scope, "scope")
        signal = self.runtime.signal(scope, 1)
        self.effect(self.b, *failing_at(0))
        self.assertEqual(self.runtime.delivered(), [2, 1, 0, "scope"])
        self.assertEqual(self.active(), [0, self.s, self.b, self.t, self.p])
        self.assertIs(self.runtime.is_disposed(signal), True)

    def test_effects_behind_in_the_same_boundary_have_no_turn(self):
        self.effect(self.b, emit(("join", value("a"), read("s"))))
        self.effect(self.b, *failing_at(2))
        self.effect(self.b, emit(("join", value("b"), read("s"))))
        self.runtime.write(self.s, 2)
        self.assertEqual(self.runtime.delivered(), ["a0", "b0", "a2"])
        self.assertEqual(len(self.runtime.runs()), 2)

    def test_the_message_is_a_deferred_write(self):
        ahead = self.effect(0, ("emit", ("join", value("a"), read("b"))), b=self.b)
        self.effect(self.b, *failing_at(2))
        behind = self.effect(0, ("emit", ("join", value("b"), ("join", read("b"), read("s")))), b=self.b)
        self.runtime.write(self.s, 2)
        self.assertEqual(self.runtime.delivered(), ["anone", "bnone0", "bnone2", "aerror bad", "berror bad2"])
        self.assertEqual([run[0] for run in self.runtime.runs()], [ahead + 1, behind, ahead, behind])

    def test_a_reset_behind_the_error_in_the_same_pass(self):
        for early in (True, False):
            runtime = Both()
            s = runtime.signal(0, 0)
            b = runtime.boundary(0)
            reset = [("if", ("equal", read("s"), value(2)), [("reset", "b")], [])]
            if early:
                runtime.effect(0, reset, names(s=s, b=b))
            runtime.effect(b, failing_at(2), names(s=s))
            if not early:
                runtime.effect(0, reset, names(s=s, b=b))
            runtime.write(s, 2)
            self.assertEqual(runtime.read(b), "error bad" if early else None)

    def test_a_boundary_that_is_disposed_of_in_the_same_pass(self):
        self.effect(self.b, *failing_at(2))
        self.effect(0, ("if", ("equal", read("s"), value(2)), [("dispose", "b")], []), b=self.b)
        self.runtime.write(self.s, 2)
        self.assertEqual(self.runtime.reading(("value", self.b)), ("error", "disposed"))

    def test_the_message_stays_until_it_is_reset(self):
        self.effect(self.b, fail("x"))
        self.runtime.write(self.s, 2)
        self.effect(self.b, emit("new"))
        self.assertEqual(self.runtime.read(self.b), "error x")
        self.assertEqual(self.runtime.delivered(), ["new"])
        self.assertIs(self.runtime.reset(self.b), None)
        self.assertIs(self.runtime.read(self.b), None)
        self.effect(self.b, fail("y"))
        self.assertEqual(self.runtime.read(self.b), "error y")

    def test_an_effect_that_resets_its_boundary(self):
        self.effect(0, ("if", read("b"), [emit(read("b")), ("reset", "b")], []), b=self.b)
        self.effect(self.b, *failing_at(2))
        self.runtime.write(self.s, 2)
        self.assertEqual(self.runtime.delivered(), ["error bad"])
        self.assertIs(self.runtime.read(self.b), None)

    def test_undo_brings_back_what_was_disposed_of(self):
        number = self.effect(self.b, *failing_at(2, emit(read("s"))))
        self.runtime.write(self.s, 2)
        self.assertIs(self.runtime.undo(), True)
        self.assertIs(self.runtime.is_disposed(number), False)
        self.assertIs(self.runtime.read(self.b), None)
        self.runtime.write(self.s, 3)
        self.assertEqual(self.runtime.delivered(), [0, 3])


class KeptTest(unittest.TestCase):
    """What was kept for computed nodes is rolled back with the execution, but not what its check has kept."""

    def setUp(self):
        self.runtime = Runtime()
        self.b = self.runtime.boundary(0)
        self.s = self.runtime.signal(0, 0)
        self.c = self.runtime.computed(0, [give(("add", read("s"), V))], names(s=self.s))

    def test_what_the_execution_kept(self):
        self.runtime.effect(self.b, [emit(read("c")), fail("x")], names(c=self.c))
        self.assertEqual(self.runtime.runs(), [(4, FIRST), (self.c, FIRST)])
        self.assertIs(self.runtime.dependencies(self.c), None)
        self.runtime.read(self.c)
        self.assertEqual(self.runtime.runs(), [(self.c, FIRST)])

    def test_what_the_execution_kept_anew(self):
        self.runtime.read(self.c)
        self.runtime.effect(self.b, [("if", ("peek", "s"), [emit(read("c")), fail("x")], [emit(read("s"))])],
                            names(c=self.c, s=self.s))
        self.runtime.write(self.s, 2)
        cause = ("changed", ("value", self.s), ("value", 0), ("value", 2))
        self.assertEqual(self.runtime.runs(), [(4, cause), (self.c, cause)])
        self.assertEqual(self.runtime.dependencies(self.c), [(("value", self.s), ("value", 0))])
        self.runtime.read(self.c)
        self.assertEqual(self.runtime.runs(), [(self.c, cause)])

    def test_what_the_check_kept_stays(self):
        self.runtime.effect(self.b, [("if", ("equal", read("c"), value(3)), [fail("x")], [])], names(c=self.c))
        self.runtime.write(self.s, 2)
        cause = ("changed", ("value", self.s), ("value", 0), ("value", 2))
        self.assertEqual(self.runtime.runs(), [
            (self.c, cause), (4, ("changed", ("value", self.c), ("value", 1), ("value", 3)))])
        self.assertEqual(self.runtime.dependencies(self.c), [(("value", self.s), ("value", 2))])
        self.runtime.read(self.c)
        self.assertEqual(self.runtime.runs(), [])

    def test_what_the_execution_itself_recorded(self):
        self.runtime.effect(self.b, [emit(read("s")), ("if", ("peek", "s"), [emit(read("c")), fail("x")], [])],
                            names(c=self.c, s=self.s))
        self.runtime.write(self.s, 2)
        self.assertEqual(self.runtime.dependencies(4), [(("value", self.s), ("value", 0))])

    def test_a_resource(self):
        number = self.runtime.resource(0, [give(read("s"))], names(s=self.s))
        self.runtime.effect(self.b, [("if", ("peek", "s"), [emit(read("r")), fail("x")], [emit(read("s"))])],
                            names(r=number, s=self.s))
        self.runtime.write(self.s, 2)
        cause = ("changed", ("value", self.s), ("value", 0), ("value", 2))
        # Executed in the execution that was rolled back, and again for its request.
        self.assertEqual(self.runtime.runs(), [(5, cause), (number, cause), (number, cause)])
        self.assertEqual(self.runtime.requests(), [0, 2])


if __name__ == "__main__":
    unittest.main()
