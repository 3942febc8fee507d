"""Point [38]: the states that undoing goes back to."""

import unittest

from ripplewell.errors import RippleError
from ripplewell.runtimes import Runtime

from helping import Both, emit, everything, fail, give, names, node, read, value


class UndoTest(unittest.TestCase):
    def setUp(self):
        self.runtime = Both()

    def undone(self):
        """How often it can be undone."""
        times = 0
        while self.runtime.undo():
            times += 1
        return times

    def test_nothing_to_undo(self):
        self.assertIs(self.runtime.undo(), False)
        self.assertEqual(self.runtime.nodes(), [("scope", None, True)])
        self.assertEqual(self.runtime.runs(), [])

    def test_sixteen_states_and_no_more(self):
        number = self.runtime.signal(0, 0)
        for thing in range(1, 16):
            self.runtime.write(number, thing)
        self.assertEqual(self.undone(), 16)
        self.assertEqual(len(self.runtime.nodes()), 1)
        number = self.runtime.signal(0, 0)
        for thing in range(1, 17):
            self.runtime.write(number, thing)
        for thing in range(15, -1, -1):
            self.assertIs(self.runtime.undo(), True)
            self.assertEqual(self.runtime.read(number), thing)
        self.assertIs(self.runtime.undo(), False)
        self.assertEqual(self.runtime.read(number), 0)

    def test_what_is_done_after_an_undo(self):
        number = self.runtime.signal(0, 0)
        for thing in (1, 2, 3):
            self.runtime.write(number, thing)
        self.runtime.undo()
        self.runtime.undo()
        self.runtime.write(number, 9)
        self.runtime.undo()
        self.assertEqual(self.runtime.read(number), 1)
        self.runtime.undo()
        self.assertEqual(self.runtime.read(number), 0)
        self.assertEqual(self.undone(), 1)

    def test_each_call_that_adds_a_state(self):
        calls = [
            ("signal", 0, 1), ("store", 0, []), ("scope", 0), ("boundary", 0), ("computed", 0, [], {}),
            ("effect", 0, [], {}), ("resource", 0, [], {}), ("keyed", 0, 2, "k", [], {}), ("context", 1),
            ("emit", 0, 1), ("cleanup", 0, 1), ("write", 3, 1), ("write", 3, 2), ("put", 2, "a", 1),
            ("put", 2, "b", 1), ("remove", 2, "z"), ("reset", 1), ("transaction", 0, [], {}),
            ("transaction", 0, [emit(1)], {}), ("respond", 0, 1), ("reject", 0, "no"), ("subscribe", 3),
        ]
        for method, *arguments in calls:
            runtime = Both()
            runtime.boundary(0)
            runtime.store(0, [("a", 1)])
            runtime.signal(0, 1)
            runtime.resource(0, [give(read("s"))], names(s=3))
            before = everything(runtime.kept)
            getattr(runtime, method)(*arguments)
            self.assertIs(runtime.undo(), True, method)
            self.assertEqual(everything(runtime.kept), before, method)
            self.assertEqual([runtime.undo() for _ in range(5)], [True] * 4 + [False])

    def test_provide_pull_close_and_dispose_add_states(self):
        runtime = self.runtime
        runtime.context(1)
        scope, signal = runtime.scope(0), runtime.signal(0, 1)
        watch = runtime.subscribe(signal)
        for method, arguments in (("provide", (scope, 0, 5)), ("pull", (watch,)), ("pull", (watch,)),
                                  ("close", (watch,)), ("close", (watch,)), ("dispose", (scope,)),
                                  ("dispose", (scope,)), ("pull", (watch,))):
            before = everything(runtime.kept)
            getattr(runtime, method)(*arguments)
            changed = everything(runtime.kept)
            runtime.undo()
            self.assertEqual(everything(runtime.kept), before, method)
            getattr(runtime, method)(*arguments)
            self.assertEqual(everything(runtime.kept), changed, method)
        self.assertEqual(self.undone(), 12)

    def test_each_call_that_adds_none(self):
        runtime = self.runtime
        runtime.context(1)
        store, signal = runtime.store(0, [("a", 1)]), runtime.signal(0, 1)
        resource = runtime.resource(0, [give(read("s"))], names(s=signal))
        runtime.pull(runtime.subscribe(signal))
        runtime.respond(0, 5)
        self.assertEqual(runtime.read(signal), 1)
        for method, *arguments in (
                ("use", 0, 0), ("read", signal), ("state", resource), ("get", store, "a"), ("has", store, "a"),
                ("keys", store), ("reading", ("value", signal)), ("is_disposed", 0), ("answer", 0), ("delivered",),
                ("requests",), ("runs",), ("dependencies", resource), ("nodes",), ("respond", 0, 1),
                ("reject", 0, "no")):
            getattr(runtime, method)(*arguments)
        for method, *arguments in (
                ("signal", 99, 1), ("write", signal, -1), ("write", store, 1), ("transaction", 0, [fail("x")], {}),
                ("effect", 0, [fail("x")], {}), ("dispose", 0), ("provide", 0, 0, 1), ("context", -1),
                ("subscribe", 0), ("pull", 9), ("close", 9), ("respond", 9, 1), ("reject", 0, "x" * 41)):
            with self.assertRaises(RippleError):
                getattr(runtime, method)(*arguments)
        self.assertEqual(self.undone(), 7)

    def test_everything_is_as_it_was_then(self):
        runtime = self.runtime
        context = runtime.context("default")
        scope = runtime.scope(0)
        signal, store = runtime.signal(scope, 1), runtime.store(0, [("a", 1)])
        computed = runtime.computed(0, [give(read("s"))], names(s=signal))
        boundary, other = runtime.boundary(0), runtime.boundary(0)
        states = []
        calls = [
            ("effect", boundary, [emit(read("c")), ("signal", "y", value(1)), ("cleanup", value("bye")),
                                  ("if", ("equal", read("c"), value(7)), [fail("x")], [])], names(c=computed)),
            ("keyed", 0, store, "k", [emit(("var", "k"))], {}),
            ("resource", 0, [give(read("c"))], names(c=computed)),
            ("subscribe", computed), ("pull", 0), ("pull", 0), ("write", signal, 2), ("respond", 1, "answer"),
            ("put", store, "b", 2), ("remove", store, "a"), ("write", signal, 7), ("reset", boundary),
            ("close", 0), ("provide", other, context, 1),
            ("dispose", boundary), ("emit", 0, "out"),
        ]
        for method, *arguments in calls:
            states.append(everything(runtime.kept))
            getattr(runtime, method)(*arguments)
        while states:
            self.assertIs(runtime.undo(), True)
            self.assertEqual(everything(runtime.kept), states.pop())

    def test_runs_are_empty_behind_it(self):
        number = self.runtime.signal(0, 1)
        self.runtime.effect(0, [emit(read("s"))], names(s=number))
        self.runtime.write(number, 2)
        self.assertEqual(len(self.runtime.runs()), 1)
        self.runtime.undo()
        self.assertEqual(self.runtime.runs(), [])
        self.runtime.write(number, 3)
        self.assertEqual(self.runtime.runs()[0][1], ("changed", ("value", number), ("value", 1), ("value", 3)))

    def test_numbers_are_used_again(self):
        self.runtime.signal(0, 1)
        self.runtime.undo()
        self.assertEqual(self.runtime.scope(0), 1)
        self.assertEqual(self.runtime.nodes(), [("scope", None, True), ("scope", 0, True)])


class KeptTest(unittest.TestCase):
    def test_kept_results_are_as_they_were_then(self):
        runtime = Runtime()
        signal = runtime.signal(0, 1)
        number = runtime.computed(0, [give(read("s"))], {"s": node(signal)})
        runtime.read(number)
        runtime.write(signal, 2)
        runtime.read(number)
        runtime.undo()
        self.assertEqual(runtime.read(number), 1)
        self.assertEqual(runtime.runs(), [])
        runtime.undo()
        self.assertEqual(runtime.computed(0, [], {}), number)
        self.assertIs(runtime.dependencies(number), None)

    def test_a_state_has_what_was_read_ahead_of_the_change(self):
        runtime = Runtime()
        signal = runtime.signal(0, 1)
        number = runtime.computed(0, [give(read("s"))], {"s": node(signal)})
        runtime.context(1)
        runtime.read(number)
        runtime.undo()
        self.assertIs(runtime.dependencies(number), None)
        runtime.read(number)
        runtime.context(1)
        runtime.undo()
        self.assertEqual(runtime.dependencies(number), [(("value", signal), ("value", 1))])


if __name__ == "__main__":
    unittest.main()
