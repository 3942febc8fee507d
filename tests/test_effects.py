"""Points [21] to [24]: propagation, executions of effects, deferred writes."""

import unittest

from ripplewell.errors import RippleError

from helping import Both, CallTest, attempt, emit, everything, fail, give, names, read, value, var

FIRST = ("first",)
V = value(1)


def changed(number, old, new, word="value"):
    return ("changed", (word, number), ("value", old), ("value", new))


class EffectTest(CallTest):
    def setUp(self):
        self.runtime = Both()
        self.s = self.runtime.signal(0, 1)
        self.t = self.runtime.signal(0, 10)

    def effect(self, *program, owner=0, **numbers):
        return self.runtime.effect(owner, list(program), names(s=self.s, t=self.t, **numbers))

    def both_signals(self, s, t):
        self.runtime.transaction(0, [("write", "s", value(s)), ("write", "t", value(t))], names(s=self.s, t=self.t))


class TurnsTest(EffectTest):
    def test_it_is_executed_when_it_is_made_and_when_something_that_it_read_has_changed(self):
        number = self.effect(emit(read("s")))
        self.assertEqual(self.runtime.runs(), [(number, FIRST)])
        self.assertEqual(self.runtime.delivered(), [1])
        self.runtime.write(self.t, 11)
        self.assertEqual(self.runtime.runs(), [])
        self.runtime.write(self.s, 1)
        self.assertEqual(self.runtime.runs(), [])
        self.runtime.write(self.s, 2)
        self.assertEqual(self.runtime.runs(), [(number, changed(self.s, 1, 2))])
        self.assertEqual(self.runtime.delivered(), [1, 2])
        self.assertEqual(self.runtime.dependencies(number), [(("value", self.s), ("value", 2))])

    def test_true_and_1_are_another_reading(self):
        number = self.effect(emit(read("s")))
        self.runtime.write(self.s, True)
        self.assertEqual(repr(self.runtime.runs()), repr([(number, changed(self.s, 1, True))]))

    def test_the_first_node_behind_the_root_has_its_turn(self):
        runtime = Both()
        self.assertEqual(runtime.effect(0, [emit(1)], {}), 1)
        self.assertEqual(runtime.delivered(), [1])

    def test_turns_are_in_the_order_of_the_numbers(self):
        program = [("effect", "one", [emit(1)]), ("effect", "two", [emit(2)]), ("scope", "x"),
                   ("effect", "tri", [emit(3)])]
        self.runtime.transaction(0, program, {})
        self.assertEqual(self.runtime.delivered(), [1, 2, 3])
        self.assertEqual(self.runtime.runs(), [(3, FIRST), (4, FIRST), (6, FIRST)])

    def test_each_is_executed_once_for_a_transaction(self):
        one = self.effect(emit(("add", read("s"), read("t"))))
        two = self.effect(emit(("join", read("t"), read("s"))))
        self.both_signals(2, 20)
        self.assertEqual(self.runtime.runs(), [(one, changed(self.s, 1, 2)), (two, changed(self.t, 10, 20))])
        self.assertEqual(self.runtime.delivered(), [11, "101", 22, "202"])
        self.both_signals(2, 20)
        self.assertEqual(self.runtime.runs(), [])

    def test_the_check_executes_computed_nodes(self):
        even = self.runtime.computed(0, [give(("less", read("s"), value(5)))], names(s=self.s))
        number = self.effect(emit(read("e")), e=even)
        self.assertEqual(self.runtime.runs(), [(number, FIRST), (even, FIRST)])
        self.runtime.write(self.s, 2)
        self.assertEqual(self.runtime.runs(), [(even, changed(self.s, 1, 2))])
        self.runtime.write(self.s, 7)
        self.assertEqual(self.runtime.runs(), [(even, changed(self.s, 2, 7)), (number, changed(even, True, False))])
        self.assertEqual(self.runtime.delivered(), [True, False])

    def test_dependencies_are_recorded_each_time_anew(self):
        number = self.effect(("if", read("s"), [emit(read("t"))], [emit("none")]))
        self.runtime.write(self.s, 0)
        self.assertEqual(self.runtime.dependencies(number), [(("value", self.s), ("value", 0))])
        self.runtime.write(self.t, 11)
        self.assertEqual(self.runtime.runs(), [])
        self.runtime.write(self.s, 2)
        self.runtime.write(self.t, 12)
        self.assertEqual(self.runtime.delivered(), [10, "none", 11, 12])

    def test_the_program_of_a_node_that_has_no_reads(self):
        self.effect(emit(1))
        self.both_signals(5, 6)
        self.assertEqual(self.runtime.delivered(), [1])

    def test_a_return_ends_it(self):
        number = self.effect(("if", ("equal", read("s"), V), [give(5)], []), emit(read("t")))
        self.assertEqual(self.runtime.dependencies(number), [(("value", self.s), ("value", 1))])
        self.runtime.write(self.s, 2)
        self.assertEqual(self.runtime.delivered(), [10])

    def test_an_effect_that_is_disposed_of_before_its_turn(self):
        self.runtime.transaction(0, [("effect", "e", [emit(1)]), ("dispose", "e")], {})
        self.assertEqual(self.runtime.delivered(), [])
        self.assertEqual(self.runtime.runs(), [])
        self.assertIs(self.runtime.dependencies(3), None)

    def test_reads_of_computed_nodes_belong_to_them(self):
        number = self.runtime.computed(0, [give(read("s"))], names(s=self.s))
        effect = self.effect(emit(read("c")), c=number)
        self.assertEqual(self.runtime.dependencies(effect), [(("value", number), ("value", 1))])


class WritesTest(EffectTest):
    def setUp(self):
        EffectTest.setUp(self)
        self.u = self.runtime.signal(0, 0)

    def test_writes_are_deferred_to_the_end_of_the_pass(self):
        one = self.effect(("write", "u", ("add", read("s"), V)), emit(("peek", "u")), u=self.u)
        two = self.effect(emit(("join", value("u"), read("u"))), u=self.u)
        self.assertEqual(self.runtime.delivered(), [0, "u2"])
        self.runtime.write(self.s, 2)
        self.assertEqual(self.runtime.runs(), [(one, changed(self.s, 1, 2)), (two, changed(self.u, 2, 3))])
        self.assertEqual(self.runtime.delivered(), [0, "u2", 2, "u3"])

    def test_what_reads_ahead_of_and_behind_the_writer(self):
        ahead = self.effect(emit(("join", value("a"), read("u"))), u=self.u)
        writer = self.effect(("write", "u", read("s")), u=self.u)
        self.assertEqual(self.runtime.runs(), [(writer, FIRST), (ahead, changed(self.u, 0, 1))])
        behind = self.effect(emit(("join", value("b"), ("add", read("u"), read("s")))), u=self.u)
        self.runtime.write(self.s, 5)
        # behind reads s as it is, and u as it was at the beginning of the pass.
        self.assertEqual(self.runtime.runs(), [
            (writer, changed(self.s, 1, 5)), (behind, changed(self.s, 1, 5)),
            (ahead, changed(self.u, 1, 5)), (behind, changed(self.u, 1, 5))])
        self.assertEqual(self.runtime.delivered(), ["a0", "a1", "b2", "b6", "a5", "b10"])

    def test_the_order_of_deferred_writes(self):
        store = self.runtime.store(0, [("a", 1), ("b", 2)])
        self.effect(("write", "u", value(1)), ("write", "u", value(2)), ("remove", "p", value("a")),
                    ("put", "p", value("a"), value(5)), ("put", "p", value("b"), value(6)),
                    emit(("size", "p")), emit(("get", "p", value("a"))), u=self.u, p=store)
        self.assertEqual(self.runtime.delivered(), [2, 1, 2, 5])
        self.assertEqual(self.runtime.read(self.u), 2)
        self.assertEqual(self.runtime.keys(store), ["b", "a"])
        self.assertEqual([self.runtime.get(store, key) for key in "ab"], [5, 6])

    def test_writes_of_several_effects_are_made_in_their_order(self):
        self.runtime.transaction(0, [("effect", "x", [("write", "u", value("first"))]),
                                     ("effect", "y", [("write", "u", value("second"))])], names(u=self.u))
        self.assertEqual(self.runtime.read(self.u), "second")

    def test_computed_nodes_see_the_beginning_of_the_pass(self):
        number = self.runtime.computed(0, [give(("add", read("u"), read("s")))], names(u=self.u, s=self.s))
        effect = self.effect(("write", "u", value(100)), emit(read("c")), u=self.u, c=number)
        self.assertEqual(self.runtime.delivered(), [1, 101])
        self.assertEqual(self.runtime.runs(), [
            (effect, FIRST), (number, FIRST), (number, changed(self.u, 0, 100)), (effect, changed(number, 1, 101))])

    def test_a_signal_that_is_made_in_the_execution(self):
        self.effect(("signal", "y", value(1)), ("write", "y", value(2)), emit(("peek", "y")))
        self.assertEqual(self.runtime.delivered(), [1])
        self.assertEqual(self.runtime.read(5), 2)
        # It is a dependency of the execution that made it: the next pass makes another one.
        self.fails("did not settle", "effect", 0,
                   [("signal", "y", value(1)), ("write", "y", value(2)), emit(read("y"))], {})

    def test_resets_are_deferred(self):
        boundary = self.runtime.boundary(0)
        self.runtime.effect(boundary, [fail("x")], {})
        self.effect(("reset", "b"), emit(read("b")), b=boundary)
        self.assertEqual(self.runtime.delivered(), ["error x", None])

    def test_each_write_is_made_once(self):
        store = self.runtime.store(0, [("a", 1)])
        moving = [("remove", "p", value("a")), ("put", "p", value("a"), V)]
        self.effect(("if", ("equal", read("s"), value(5)), moving + [("write", "t", value("next"))], []), p=store)
        self.effect(("if", ("equal", read("t"), value("next")), [("put", "p", value("b"), V)], []), p=store)
        self.runtime.write(self.s, 5)
        self.assertEqual(self.runtime.keys(store), ["a", "b"])

    def test_writes_of_a_propagation_that_failed_are_forgotten(self):
        self.effect(("if", ("equal", read("s"), value(5)), [("write", "u", value("lost")), fail("x")], []), u=self.u)
        self.fails("error x", "write", self.s, 5)
        self.runtime.write(self.t, 3)
        self.runtime.write(self.s, 6)
        self.assertEqual(self.runtime.read(self.u), 0)

    def test_writes_in_a_block_that_failed_are_made(self):
        self.effect(("try", [("write", "u", value(3)), emit("a"), ("signal", "y", V), fail("x")], "m", []), u=self.u)
        self.assertEqual(self.runtime.read(self.u), 3)
        self.assertEqual(self.runtime.delivered(), ["a"])
        self.assertEqual(self.runtime.nodes()[-1], ("signal", 4, True))


class PassesTest(EffectTest):
    def counting(self, most):
        """An effect that counts s up to most, a pass for each."""
        return [("if", ("less", read("s"), value(most)), [("write", "s", ("add", read("s"), V))], [])]

    def test_ten_passes_and_eleven(self):
        number = self.effect(*self.counting(10))
        self.assertEqual(self.runtime.read(self.s), 10)
        self.runtime.write(self.s, 1)
        self.assertEqual(self.runtime.runs(), [(number, changed(self.s, 10, 1))] + [
            (number, changed(self.s, n, n + 1)) for n in range(1, 10)])
        self.assertEqual(self.runtime.read(self.s), 10)
        self.fails("did not settle", "write", self.s, 0)
        # The tenth pass has seen 9; in the eleventh nothing is executed any more.
        self.assertEqual(self.runtime.runs(), [(number, changed(self.s, 10, 0))] + [
            (number, changed(self.s, n, n + 1)) for n in range(0, 9)])
        self.assertEqual(self.runtime.read(self.s), 10)

    def test_an_effect_that_never_settles_is_not_made(self):
        self.fails("did not settle", "effect", 0, self.counting(100), names(s=self.s))
        self.assertEqual(self.runtime.runs()[0], (3, FIRST))
        self.assertEqual(len(self.runtime.runs()), 10)
        self.fails("did not settle", "effect", 0, self.counting(11), names(s=self.s))
        self.assertEqual(self.effect(*self.counting(10)), 3)

    def test_checks_of_the_eleventh_pass_are_runs(self):
        number = self.runtime.kept.computed(0, [give(read("s"))], names(s=self.s))
        with self.assertRaises(RippleError):
            self.runtime.kept.effect(0, [("write", "s", ("add", read("c"), V))], names(s=self.s, c=number))
        runs = self.runtime.kept.runs()
        self.assertEqual(runs[-1], (number, changed(self.s, 10, 11)))
        self.assertEqual(len([run for run in runs if run[0] == number + 1]), 10)
        self.assertEqual(len([run for run in runs if run[0] == number]), 11)

    def test_a_failure_in_the_tenth_pass_and_in_the_eleventh(self):
        """The boundary's message is read by an effect one pass later."""
        for most, settles in ((9, True), (10, False)):
            runtime = Both()
            s = runtime.signal(0, 50)
            b = runtime.boundary(0)
            runtime.effect(0, [("if", ("less", read("s"), value(most)), [("write", "s", ("add", read("s"), V))], [])],
                           names(s=s))
            runtime.effect(b, [("if", ("equal", read("s"), value(most)), [fail("x")], [])], names(s=s))
            runtime.effect(0, [emit(read("b"))], names(b=b))
            if settles:
                runtime.write(s, 1)
                self.assertEqual(runtime.delivered(), [None, "error x"])
                self.assertEqual(len(runtime.runs()), 9 + 9 + 1)
            else:
                before = everything(runtime.kept)
                with self.assertRaises(RippleError) as caught:
                    runtime.write(s, 1)
                self.assertEqual(caught.exception.message, "did not settle")
                self.assertEqual(everything(runtime.kept), before)

    def test_a_boundary_does_not_take_did_not_settle(self):
        boundary = self.runtime.boundary(0)
        self.fails("did not settle", "effect", boundary, self.counting(50), names(s=self.s))

    def test_two_effects_that_never_agree(self):
        self.effect(("write", "t", ("add", read("s"), V)))
        self.fails("did not settle", "effect", 0, [("write", "s", ("add", read("t"), V))],
                   names(s=self.s, t=self.t))


class OwningTest(EffectTest):
    def test_what_an_effect_made_is_disposed_of_first(self):
        number = self.effect(("scope", "x"), ("signal", "y", read("s")), ("cleanup", ("join", value("c"), read("s"))),
                             ("cleanup", value("d")), emit(read("s")))
        self.assertEqual(self.runtime.nodes()[number + 1:], [("scope", number, True), ("signal", number, True)])
        self.runtime.cleanup(number + 1, "inner")
        inner = self.runtime.scope(number + 1)
        self.runtime.cleanup(inner, "innermost")
        self.runtime.write(self.s, 2)
        self.assertEqual(self.runtime.delivered(), [1, "innermost", "inner", "d", "c1", 2])
        self.assertEqual(self.runtime.nodes()[number + 1:], [
            ("scope", number, False), ("signal", number, False), ("scope", number + 1, False),
            ("scope", number, True), ("signal", number, True)])

    def test_inner_effects_are_executed_in_the_same_pass(self):
        outer = self.effect(emit(read("s")), ("effect", "e", [emit(("join", value("i"), read("s")))]))
        self.assertEqual(self.runtime.delivered(), [1, "i1"])
        self.runtime.write(self.s, 2)
        self.assertEqual(self.runtime.delivered(), [1, "i1", 2, "i2"])
        self.assertEqual(self.runtime.runs(), [(outer, changed(self.s, 1, 2)), (outer + 2, FIRST)])
        self.assertEqual(self.runtime.nodes()[outer:], [
            ("effect", 0, True), ("effect", outer, False), ("effect", outer, True)])

    def test_only_the_inner_effect(self):
        outer = self.effect(emit(read("t")), ("effect", "e", [("emit", read("s")), ("cleanup", value("bye"))]))
        self.runtime.write(self.s, 2)
        self.assertEqual(self.runtime.delivered(), [10, 1, "bye", 2])
        self.assertEqual(self.runtime.runs(), [(outer + 1, changed(self.s, 1, 2))])
        self.runtime.write(self.t, 11)
        self.assertEqual(self.runtime.delivered(), [10, 1, "bye", 2, "bye", 11, 2])

    def test_three_deep_with_cleanups(self):
        program = [("cleanup", value("a")), ("effect", "x", [
            ("cleanup", value("b")), ("effect", "y", [("cleanup", value("c")), emit(read("s"))])])]
        number = self.effect(emit(read("t")), *program)
        self.assertEqual(self.runtime.delivered(), [10, 1])
        self.runtime.write(self.t, 11)
        self.assertEqual(self.runtime.delivered(), [10, 1, "c", "b", "a", 11, 1])
        self.runtime.dispose(number)
        self.assertEqual(self.runtime.delivered()[7:], ["c", "b", "a"])

    def test_a_cleanup_is_put_out_once(self):
        number = self.effect(("if", ("equal", read("s"), V), [("cleanup", value("once"))], []))
        self.runtime.write(self.s, 2)
        self.runtime.write(self.s, 3)
        self.runtime.dispose(number)
        self.assertEqual(self.runtime.delivered(), ["once"])

    def test_an_inner_computed_node(self):
        self.effect(("let", "n", read("s")), ("computed", "c", [give(("add", var("n"), read("t")))]), emit(read("c")))
        self.runtime.write(self.t, 20)
        self.runtime.write(self.s, 2)
        self.assertEqual(self.runtime.delivered(), [11, 21, 22])

    def test_cleanup_of_an_effect_through_its_owner(self):
        scope = self.runtime.scope(0)
        self.effect(("cleanup", value("e")), owner=scope)
        self.runtime.cleanup(scope, "s")
        self.runtime.dispose(scope)
        self.assertEqual(self.runtime.delivered(), ["e", "s"])


class FailingTest(EffectTest):
    """Without a boundary, the whole transaction fails, and leaves what was before."""

    def test_making(self):
        self.fails("error x", "effect", 0, [emit(1), ("signal", "y", V), fail("x")], {})
        self.assertEqual(self.runtime.runs(), [(3, FIRST)])
        self.assertEqual(self.runtime.signal(0, 1), 3)

    def test_writing(self):
        self.effect(emit(read("s")), ("cleanup", value("c")), ("scope", "x"),
                    ("if", ("equal", read("s"), value(5)), [fail("five")], []))
        other = self.effect(emit(("join", value("o"), read("s"))))
        self.fails("error five", "write", self.s, 5)
        self.assertEqual(self.runtime.runs(), [(3, changed(self.s, 1, 5))])
        self.runtime.write(self.s, 6)
        self.assertEqual(self.runtime.delivered(), [1, "o1", "c", 6, "o6"])
        self.assertEqual(self.runtime.runs(), [(3, changed(self.s, 1, 6)), (other, changed(self.s, 1, 6))])

    def test_a_transaction(self):
        self.effect(("if", ("less", value(5), read("s")), [fail("more")], []))
        program = [emit(1), ("signal", "y", V), ("write", "t", value(3)), ("write", "s", value(6))]
        self.fails("error more", "transaction", 0, program, names(s=self.s, t=self.t))
        self.assertEqual(self.runtime.delivered(), [])

    def test_nothing_is_executed_behind_the_error(self):
        program = [("effect", "x", [emit(1)]), ("effect", "y", [fail("x")]), ("effect", "z", [emit(2)])]
        self.fails("error x", "transaction", 0, program, {})
        self.assertEqual(self.runtime.runs(), [(3, FIRST), (4, FIRST)])

    def test_errors_of_the_runtime(self):
        self.fails("no such variable", "effect", 0, [emit(var("x"))], {})
        self.fails("not allowed here", "effect", 0, [("atomic", [], "y", [])], {})

    def test_an_error_that_is_caught_is_none(self):
        self.effect(*attempt([fail("x")]))
        self.assertEqual(self.runtime.delivered(), ["error x"])

    def test_undo_is_not_possible_for_what_failed(self):
        self.fails("error x", "effect", 0, [fail("x")], {})
        self.assertIs(self.runtime.undo(), True)
        self.assertEqual(len(self.runtime.nodes()), 2)


class LimitsTest(EffectTest):
    """Point [9]: 24 active nodes, and 20 made in one outermost transaction."""

    def active(self):
        return len([entry for entry in self.runtime.nodes() if entry[2]])

    def test_24_active_nodes(self):
        while self.active() < 24:
            self.runtime.scope(0)
        for method, arguments in (("scope", (0,)), ("signal", (0, 1)), ("boundary", (0,)), ("store", (0, [])),
                                  ("computed", (0, [], {})), ("effect", (0, [], {})), ("resource", (0, [], {}))):
            self.fails("too many nodes", method, *arguments)
        self.runtime.dispose(5)
        self.assertEqual(self.runtime.scope(0), 24)
        self.fails("too many nodes", "scope", 0)

    def test_20_nodes_of_one_transaction(self):
        program = [("scope", "x"), ("dispose", "x")]
        self.fails("too many nodes", "transaction", 0, program * 21, {})
        self.runtime.transaction(0, program * 20, {})
        self.assertEqual(len(self.runtime.nodes()), 23)
        self.assertEqual(self.active(), 3)
        self.runtime.transaction(0, program * 20, {})
        self.assertEqual(len(self.runtime.nodes()), 43)

    def test_it_can_be_caught(self):
        program = [("scope", "x")] * 20 + attempt([("scope", "x")])
        self.runtime.transaction(0, program, {})
        self.assertEqual(self.runtime.delivered(), ["too many nodes"])

    def test_nodes_of_effects_count_for_the_transaction(self):
        inner = [("scope", "x"), ("dispose", "x")] * 10
        self.runtime.transaction(0, [("effect", "y", inner)] + [("scope", "x"), ("dispose", "x")] * 9, {})
        self.fails("too many nodes", "transaction", 0,
                   [("effect", "y", inner)] + [("scope", "x"), ("dispose", "x")] * 10, {})

    def test_nodes_of_several_passes_count(self):
        made = [("scope", "x"), ("dispose", "x")] * 7
        self.effect(*made, ("if", ("less", read("s"), value(2)), [("write", "s", ("add", read("s"), V))], []))
        self.assertEqual(len(self.runtime.nodes()), 18)
        self.fails("too many nodes", "write", self.s, 0)
        self.runtime.write(self.s, 1)
        self.assertEqual(len(self.runtime.nodes()), 32)


if __name__ == "__main__":
    unittest.main()
