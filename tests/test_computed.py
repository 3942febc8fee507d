"""Points [16] to [19] and [37]: computed nodes, their dependencies and their runs."""

import unittest

from ripplewell.core import Core
from ripplewell.errors import RippleError
from ripplewell.passes import execute_effect
from ripplewell.runtimes import PlainRuntime, Runtime
from ripplewell.states import Node, Plan

from helping import emit, fail, give, names, node, read, value, var

FIRST = ("first",)


class ComputedTest(unittest.TestCase):
    def setUp(self):
        self.runtime = Runtime()
        self.signal = self.runtime.signal(0, 1)

    def computed(self, *program, **numbers):
        return self.runtime.computed(0, list(program), names(s=self.signal, **numbers))

    def reads(self, number, expected, runs):
        self.assertEqual(repr(self.runtime.read(number)), repr(expected))
        self.assertEqual(self.runtime.runs(), runs)
        self.assertEqual(self.runtime.read(number), expected)
        self.assertEqual(self.runtime.runs(), [])


class RunsTest(ComputedTest):
    def test_it_is_executed_when_it_is_read_first(self):
        number = self.computed(give(read("s")))
        self.assertEqual(self.runtime.runs(), [])
        self.assertIs(self.runtime.dependencies(number), None)
        self.reads(number, 1, [(number, FIRST)])
        self.assertEqual(self.runtime.dependencies(number), [(("value", self.signal), ("value", 1))])

    def test_behind_a_write(self):
        number = self.computed(give(read("s")))
        self.runtime.read(number)
        self.runtime.write(self.signal, 2)
        self.assertEqual(self.runtime.runs(), [])
        self.assertEqual(self.runtime.dependencies(number), [(("value", self.signal), ("value", 1))])
        self.reads(number, 2, [(number, ("changed", ("value", self.signal), ("value", 1), ("value", 2)))])
        self.assertEqual(self.runtime.dependencies(number), [(("value", self.signal), ("value", 2))])

    def test_a_write_of_an_equal_value(self):
        number = self.computed(give(read("s")))
        self.runtime.read(number)
        self.runtime.write(self.signal, 1)
        self.reads(number, 1, [])
        self.runtime.write(self.signal, True)
        self.reads(number, True, [(number, ("changed", ("value", self.signal), ("value", 1), ("value", True)))])

    def test_a_write_there_and_back(self):
        number = self.computed(give(read("s")))
        self.runtime.read(number)
        self.runtime.write(self.signal, 2)
        self.runtime.write(self.signal, 1)
        self.reads(number, 1, [])

    def test_behind_puts_and_removals(self):
        store = self.runtime.store(0, [("a", 1), ("b", 2)])
        one = self.computed(give(("get", "t", value("a"))), t=store)
        two = self.computed(give(("has", "t", value("c"))), t=store)
        three = self.computed(give(("size", "t")), t=store)
        for number, expected in ((one, 1), (two, False), (three, 2)):
            self.reads(number, expected, [(number, FIRST)])
        self.runtime.put(store, "b", 3)
        for number, expected in ((one, 1), (two, False), (three, 2)):
            self.reads(number, expected, [])
        self.runtime.put(store, "c", 3)
        self.reads(one, 1, [])
        self.reads(two, True, [(two, ("changed", ("has", store, "c"), ("value", False), ("value", True)))])
        self.reads(three, 3, [(three, ("changed", ("keys", store), ("keys", ("a", "b")), ("keys", ("a", "b", "c"))))])
        self.runtime.remove(store, "a")
        self.reads(one, None, [(one, ("changed", ("get", store, "a"), ("value", 1), ("absent",)))])
        self.runtime.put(store, "a", None)
        self.reads(one, None, [(one, ("changed", ("get", store, "a"), ("absent",), ("value", None)))])
        self.runtime.remove(store, "z")
        self.reads(three, 3, [(three, ("changed", ("keys", store), ("keys", ("a", "b", "c")),
                                       ("keys", ("b", "c", "a"))))])

    def test_behind_a_disposal(self):
        scope = self.runtime.scope(0)
        inner = self.runtime.signal(scope, 4)
        number = self.computed(("try", [give(read("i"))], "m", [give(var("m"))]), i=inner)
        self.reads(number, 4, [(number, FIRST)])
        self.runtime.dispose(scope)
        cause = ("changed", ("value", inner), ("value", 4), ("error", "disposed"))
        self.reads(number, "disposed", [(number, cause)])

    def test_behind_a_change_of_a_boundary(self):
        boundary = self.runtime.boundary(0)
        number = self.computed(give(read("b")), b=boundary)
        self.reads(number, None, [(number, FIRST)])
        effect = self.runtime.effect(boundary, [fail("x" * 40)], {})
        self.assertTrue(self.runtime.is_disposed(effect))
        cause = ("changed", ("value", boundary), ("value", None), ("value", "error " + "x" * 34))
        self.reads(number, "error " + "x" * 34, [(number, cause)])
        self.runtime.reset(boundary)
        self.reads(number, None, [(number, ("changed", ("value", boundary), cause[3], ("value", None)))])

    def test_only_as_far_as_a_reading_differs(self):
        even = self.computed(give(("equal", read("s"), value(2))))
        last = self.computed(give(("not", read("e"))), e=even)
        self.reads(last, True, [(last, FIRST), (even, FIRST)])
        self.runtime.write(self.signal, 3)
        self.reads(last, True, [(even, ("changed", ("value", self.signal), ("value", 1), ("value", 3)))])
        self.runtime.write(self.signal, 2)
        self.reads(last, False, [
            (even, ("changed", ("value", self.signal), ("value", 3), ("value", 2))),
            (last, ("changed", ("value", even), ("value", False), ("value", True))),
        ])

    def test_the_check_stops_at_the_first_that_differs(self):
        other = self.runtime.signal(0, 1)
        slow = self.computed(give(read("o")), o=other)
        number = self.computed(("if", read("s"), [], [give("none")]), give(read("c")), c=slow)
        self.reads(number, 1, [(number, FIRST), (slow, FIRST)])
        self.runtime.write(self.signal, 0)
        self.runtime.write(other, 2)
        self.reads(number, "none", [(number, ("changed", ("value", self.signal), ("value", 1), ("value", 0)))])
        self.assertEqual(self.runtime.dependencies(slow), [(("value", other), ("value", 1))])
        self.assertEqual(self.runtime.dependencies(number), [(("value", self.signal), ("value", 0))])

    def test_the_first_dependency_that_differs_is_the_cause(self):
        other = self.runtime.signal(0, 1)
        number = self.computed(give(("add", read("o"), ("add", read("s"), read("o")))), o=other)
        self.runtime.read(number)
        self.runtime.transaction(0, [("write", "s", value(5)), ("write", "o", value(7))],
                                 names(s=self.signal, o=other))
        self.reads(number, 19, [(number, ("changed", ("value", other), ("value", 1), ("value", 7)))])

    def test_a_diamond_is_executed_once(self):
        left = self.computed(give(("add", read("s"), value(1))))
        right = self.computed(give(("add", read("s"), value(2))))
        last = self.computed(give(("add", read("l"), ("add", read("r"), read("l")))), l=left, r=right)
        self.reads(last, 7, [(last, FIRST), (left, FIRST), (right, FIRST)])
        self.runtime.write(self.signal, 2)
        cause = ("changed", ("value", self.signal), ("value", 1), ("value", 2))
        self.reads(last, 10, [(left, cause), (last, ("changed", ("value", left), ("value", 2), ("value", 3))),
                              (right, cause)])

    def test_a_ladder_is_no_more_work_than_its_length(self):
        number = self.signal
        for _ in range(20):
            number = self.runtime.computed(0, [give(("add", read("c"), read("c")))], names(c=number))
        self.assertEqual(self.runtime.read(number), 2 ** 20 % 1000)
        self.assertEqual(len(self.runtime.runs()), 20)
        self.runtime.write(self.signal, 2)
        self.assertEqual(self.runtime.read(number), 2 ** 21 % 1000)
        self.assertEqual(len(self.runtime.runs()), 20)
        self.assertEqual(self.runtime.read(number), 2 ** 21 % 1000)
        self.assertEqual(self.runtime.runs(), [])

    def test_nodes_that_read_all_earlier_ones_are_checked_once(self):
        numbers = {"a": self.signal}
        for at in range(18):
            program = [("let", "total", ("value", 1))]
            program += [("let", "total", ("add", var("total"), read(name))) for name in sorted(numbers)]
            number = self.runtime.computed(0, program + [give(var("total"))], names(**numbers))
            numbers["bcdefghijklmnopqrst"[at]] = number
        looks = []
        core = self.runtime._calls.core
        look = core.look
        core.look = lambda source: (looks.append(source), look(source))[1]
        self.runtime.read(number)
        self.runtime.emit(0, 1)
        self.runtime.write(self.signal, 2)
        self.runtime.read(number)
        self.assertEqual(len(self.runtime.runs()), 18)
        self.assertLess(len(looks), 1000)

    def test_a_long_chain_of_deep_programs(self):
        for runtime in (Runtime(), PlainRuntime()):
            number = runtime.signal(0, 1)
            for _ in range(22):
                program = [give(("add", value(0), ("add", value(0), ("add", value(0), ("add", value(1), read("c"))))))]
                for wrap in range(4):
                    program = [("try", program, "m", []) if wrap == 2 else ("if", value(1), program, [])]
                number = runtime.computed(0, program, names(c=number))
            self.assertEqual(runtime.read(number), 23)
            runtime.write(1, 5)
            self.assertEqual(runtime.read(number), 27)

    def test_errors_are_readings(self):
        number = self.computed(("raise", read("s")))
        last = self.computed(("try", [give(read("c"))], "m", [give(("join", var("m"), value("!")))]), c=number)
        other = self.computed(give(read("c")), c=number)
        self.reads(last, "error 1!", [(last, FIRST), (number, FIRST)])
        for reader in (number, other):
            with self.assertRaises(RippleError) as caught:
                self.runtime.read(reader)
            self.assertEqual(caught.exception.message, "error 1")
        self.assertEqual(self.runtime.runs(), [(other, FIRST)])
        self.assertEqual(self.runtime.reading(("value", other)), ("error", "error 1"))
        self.assertEqual(self.runtime.runs(), [])
        self.assertEqual(self.runtime.dependencies(other), [(("value", number), ("error", "error 1"))])

    def test_long_errors_are_passed_on_whole(self):
        long = "error " + "x" * 40
        number = self.computed(fail("x" * 40))
        other = self.computed(give(read("c")), c=number)
        self.assertEqual(self.runtime.reading(("value", other)), ("error", long))
        self.assertEqual(self.runtime.dependencies(other), [(("value", number), ("error", long))])

    def test_a_node_without_dependencies_is_executed_once(self):
        number = self.computed(give(5))
        self.reads(number, 5, [(number, FIRST)])
        self.runtime.write(self.signal, 2)
        self.reads(number, 5, [])
        self.assertEqual(self.runtime.dependencies(number), [])

    def test_a_disposed_node(self):
        scope = self.runtime.scope(0)
        number = self.runtime.computed(scope, [give(read("s"))], names(s=self.signal))
        self.runtime.read(number)
        self.runtime.dispose(scope)
        with self.assertRaises(RippleError) as caught:
            self.runtime.read(number)
        self.assertEqual(caught.exception.message, "disposed")
        self.assertEqual(self.runtime.runs(), [])
        self.assertEqual(self.runtime.reading(("value", number)), ("error", "disposed"))
        self.assertEqual(self.runtime.dependencies(number), [(("value", self.signal), ("value", 1))])

    def test_what_is_kept_in_a_transaction_is_kept_behind_it(self):
        number = self.computed(give(read("s")))
        self.runtime.transaction(0, [emit(read("c"))], names(c=number))
        self.assertEqual(self.runtime.runs(), [(number, FIRST)])
        self.reads(number, 1, [])

    def test_a_transaction_reads_what_it_wrote(self):
        number = self.computed(give(read("s")))
        program = [emit(read("c")), ("write", "s", value(2)), emit(read("c")), emit(read("c")),
                   ("write", "s", value(3)), emit(("peek", "c"))]
        self.runtime.transaction(0, program, names(c=number, s=self.signal))
        self.assertEqual(self.runtime.delivered(), [1, 2, 2, 3])
        source = ("value", self.signal)
        self.assertEqual(self.runtime.runs(), [
            (number, FIRST), (number, ("changed", source, ("value", 1), ("value", 2))),
            (number, ("changed", source, ("value", 2), ("value", 3)))])

    def test_what_was_kept_in_a_transaction_that_fails_is_forgotten(self):
        number = self.computed(give(read("s")))
        for _ in range(2):
            with self.assertRaises(RippleError):
                self.runtime.transaction(0, [emit(read("c")), fail("x")], names(c=number))
            self.assertEqual(self.runtime.runs(), [(number, FIRST)])
            self.assertIs(self.runtime.dependencies(number), None)
        self.runtime.read(number)
        program = [("write", "s", value(2)), emit(read("c")), fail("x")]
        with self.assertRaises(RippleError):
            self.runtime.transaction(0, program, names(c=number, s=self.signal))
        self.reads(number, 1, [])

    def test_a_read_that_raises_keeps_its_readings(self):
        number = self.computed(("raise", read("s")))
        for runs in ([(number, FIRST)], []):
            with self.assertRaises(RippleError):
                self.runtime.read(number)
            self.assertEqual(self.runtime.runs(), runs)

    def test_calls_that_are_no_reads_leave_the_runs(self):
        number = self.computed(give(read("s")))
        runs = [(number, FIRST)]
        self.runtime.read(number)
        context = self.runtime.context(1)
        self.runtime.use(0, context)
        for call in (self.runtime.delivered, self.runtime.requests, self.runtime.nodes, self.runtime.runs):
            call()
        self.runtime.is_disposed(number)
        self.runtime.dependencies(number)
        self.runtime.close(self.runtime.subscribe(number))
        self.assertEqual(self.runtime.runs(), runs)
        with self.assertRaises(RippleError):
            self.runtime.read(99)
        self.assertEqual(self.runtime.runs(), [])


class MadeLaterTest(unittest.TestCase):
    """No call can make such a node, as settings name only nodes that are there; the core still keeps to [17]."""

    def core_with(self, keeps, kind, program, later):
        core = Core(keeps)
        core.begin()
        reader = core.make(Node(kind, 0, None, Plan(program, {"x": node(later), "s": node(4)})))
        core.make(Node("computed", 0, None, Plan((give(1),), {})))
        core.make(Node("resource", 0, None, Plan((give(1),), {})))
        core.make(Node("signal", 0, 8))
        return core, reader

    def test_made_later(self):
        for keeps in (True, False):
            for kind in ("computed", "resource"):
                for word, later in (("read", 1), ("read", 2), ("read", 3), ("state", 3)):
                    core, reader = self.core_with(keeps, kind, (give((word, "x")),), later)
                    self.assertEqual(core.look(("value", reader)), ("error", "made later"))

    def test_it_is_not_recorded(self):
        caught = ("try", (give(read("x")),), "m", (give(("join", var("m"), read("s"))),))
        core, reader = self.core_with(True, "computed", (caught,), 2)
        self.assertEqual(core.look(("value", reader)), ("value", "made later8"))
        self.assertEqual(core.node_at(reader).reads, ((("value", 4), ("value", 8)),))
        self.assertIs(core.node_at(2).reads, None)

    def test_signals_that_were_made_later_can_be_read(self):
        core, reader = self.core_with(True, "computed", (give(read("x")),), 4)
        self.assertEqual(core.look(("value", reader)), ("value", 8))

    def test_ahead_of_disposed(self):
        core, reader = self.core_with(True, "computed", (give(read("x")),), 2)
        core.end(2)
        self.assertEqual(core.look(("value", reader)), ("error", "made later"))

    def test_an_effect_may_read_what_was_made_later(self):
        core, reader = self.core_with(True, "effect", (emit(read("x")),), 2)
        execute_effect(core, reader)
        self.assertEqual(core.output, [1])


if __name__ == "__main__":
    unittest.main()
