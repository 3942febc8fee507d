"""Point [2]: arguments are not modified, and what the caller changes later has no effect."""

import copy
import unittest

from ripplewell.runtimes import PlainRuntime, Runtime

from helping import check_what_holds, emit, everything, give, names, read, value, var


def spoil(thing):
    """Change all lists and dicts in a thing as thoroughly as possible."""
    if isinstance(thing, (list, tuple)):
        for part in list(thing):
            spoil(part)
    if isinstance(thing, list):
        thing.append(("emit", ("value", "spoilt")))
        thing.insert(0, ("emit", ("value", "spoilt")))
    if isinstance(thing, dict):
        for key in list(thing):
            thing[key] = "spoilt"
        thing["spoilt"] = 1


class CopiesTest(unittest.TestCase):
    def each(self):
        for home in (Runtime, PlainRuntime):
            runtime = home()
            self.assertEqual(runtime.signal(0, 1), 1)
            self.assertEqual(runtime.store(0, [("a", 1), ("b", 2)]), 2)
            yield runtime

    def passed(self, runtime, method, *arguments):
        before = copy.deepcopy(arguments)
        given = getattr(runtime, method)(*arguments)
        self.assertEqual(arguments, before)
        known = everything(runtime)
        for thing in arguments:
            spoil(thing)
        self.assertEqual(everything(runtime), known)
        return given

    def test_pairs(self):
        for runtime in self.each():
            number = self.passed(runtime, "store", 0, [("a", 1), ("b", 2)])
            runtime.put(number, "c", 3)
            self.assertEqual(runtime.keys(number), ["a", "b", "c"])

    def test_programs_and_settings(self):
        block = [("emit", ("join", var("x"), read("s")))]
        program = [
            ("if", value(1), block, [emit("no")]), ("try", block, "m", []), ("each", "k", "p", block),
            ("store", "w", [("a", read("s"))]), ("emit", ("get", "w", value("a"))),
            ("computed", "c", [("if", value(1), [give(read("s"))], [])]), ("emit", read("c")),
            ("effect", "e", [("if", value(1), block, [])]), ("keyed", "y", "p", "k", block),
        ]
        for runtime in self.each():
            setting = names(s=1, p=2)
            setting["x"] = "x"
            number = self.passed(runtime, "effect", 0, copy.deepcopy(program), setting)
            expected = runtime.delivered()
            self.assertEqual(expected, ["x1", "x1", "x1", "x1", 1, 1, "x1", "x1", "x1"])
            runtime.write(1, 2)
            self.assertEqual(runtime.delivered()[9:], ["x2", "x2", "x2", "x2", 2, 2, "x2", "x2", "x2"])
            runtime.dispose(number)
            check_what_holds(self, runtime)

    def test_computed_nodes_resources_and_keyed_effects(self):
        for runtime in self.each():
            inner = [("if", value(1), [give(("join", var("x"), read("s")))], [])]
            setting = {"s": ("node", 1), "x": "x"}
            computed = self.passed(runtime, "computed", 0, copy.deepcopy(inner), dict(setting))
            resource = self.passed(runtime, "resource", 0, copy.deepcopy(inner), dict(setting))
            keyed = self.passed(runtime, "keyed", 0, 2, "k", [("if", value(1), [emit(("join", var("k"), var("x")))], [])],
                                dict(setting))
            runtime.write(1, 2)
            runtime.put(2, "c", 3)
            self.assertEqual(runtime.read(computed), "x2")
            self.assertEqual(runtime.state(resource), "pending")
            self.assertEqual(runtime.requests(), ["x1", "x2"])
            self.assertEqual(runtime.delivered(), ["ax", "bx", "cx"])
            self.assertEqual(runtime.nodes()[keyed], ("keyed", 0, True))

    def test_what_a_transaction_makes(self):
        for runtime in self.each():
            program = [("effect", "e", [("if", value(1), [emit(("join", var("x"), read("s")))], [])]),
                       ("computed", "c", [give(read("s"))]), give(5)]
            self.assertEqual(self.passed(runtime, "transaction", 0, program, {"s": ("node", 1), "x": "x"}), 5)
            runtime.write(1, 2)
            self.assertEqual(runtime.delivered(), ["x1", "x2"])
            self.assertEqual(runtime.read(4), 2)

    def test_what_is_returned(self):
        for runtime in self.each():
            number = runtime.computed(0, [give(read("s"))], names(s=1))
            effect = runtime.effect(0, [emit(read("c")), emit(("size", "p"))], names(c=number, p=2))
            runtime.resource(0, [give(read("s"))], names(s=1))
            runtime.write(1, 2)
            runtime.undo()
            runtime.write(1, 3)
            known, runs = everything(runtime), runtime.runs()
            for method, arguments in (("keys", (2,)), ("delivered", ()), ("requests", ()), ("runs", ()),
                                      ("dependencies", (effect,)), ("nodes", ())):
                first, second = getattr(runtime, method)(*arguments), getattr(runtime, method)(*arguments)
                self.assertIs(type(first), list)
                self.assertIsNot(first, second)
                spoil(first)
                first.clear()
                self.assertEqual(getattr(runtime, method)(*arguments), second)
            self.assertEqual(everything(runtime), known)
            self.assertIsInstance(runs, list)
            runtime.undo()
            runtime.write(1, 3)
            self.assertEqual(runtime.runs(), runs)

    def test_kinds_of_what_is_returned(self):
        for runtime in self.each():
            runtime.effect(0, [emit(("size", "p"))], names(p=2))
            for entry in runtime.nodes():
                self.assertIs(type(entry), tuple)
            for pair in runtime.dependencies(3):
                self.assertIs(type(pair), tuple)
                self.assertIs(type(pair[0]), tuple)
                self.assertIs(type(pair[1]), tuple)
                self.assertIs(type(pair[1][1]), tuple)
            runtime.put(2, "c", 1)
            for pair in runtime.runs():
                self.assertIs(type(pair), tuple)
                self.assertIs(type(pair[1]), tuple)
            self.assertIs(type(runtime.reading(("keys", 2))[1]), tuple)
            runtime.pull(runtime.subscribe(1))
            self.assertIs(type(runtime.answer(0)), tuple)


if __name__ == "__main__":
    unittest.main()
