"""Points [41] and [42]: the examples of the document, number by number."""

import unittest

from ripplewell.runtimes import PlainRuntime, Runtime

from helping import runs_of_effects


class FirstExampleTest(unittest.TestCase):
    def calls(self, runtime):
        found = []
        self.assertEqual(runtime.signal(0, 1), 1)
        self.assertEqual(runtime.signal(0, 2), 2)
        setting = {"s": ("node", 1), "t": ("node", 2)}
        program = [("return", ("add", ("read", "s"), ("read", "t")))]
        self.assertEqual(runtime.computed(0, program, setting), 3)
        self.assertEqual(runtime.effect(0, [("emit", ("read", "c"))], {"c": ("node", 3)}), 4)
        found.append((runtime.runs(), runtime.delivered()))
        runtime.write(1, 5)
        found.append((runtime.runs(), runtime.delivered()))
        runtime.transaction(0, [("write", "s", ("value", 9)), ("write", "t", ("value", 1))], setting)
        found.append((runtime.runs(), runtime.delivered()))
        runtime.write(1, 9)
        found.append((runtime.runs(), runtime.delivered()))
        return found

    def test_a_runtime(self):
        source = ("value", 1)
        self.assertEqual(self.calls(Runtime()), [
            ([(4, ("first",)), (3, ("first",))], [3]),
            ([(3, ("changed", source, ("value", 1), ("value", 5))),
              (4, ("changed", ("value", 3), ("value", 3), ("value", 7)))], [3, 7]),
            ([(3, ("changed", source, ("value", 5), ("value", 9))),
              (4, ("changed", ("value", 3), ("value", 7), ("value", 10)))], [3, 7, 10]),
            ([], [3, 7, 10]),
        ])

    def test_a_plain_runtime(self):
        self.assertEqual(self.calls(PlainRuntime()), [
            ([(4, ("first",))], [3]),
            ([(4, ("changed", ("value", 3), ("value", 3), ("value", 7)))], [3, 7]),
            ([(4, ("changed", ("value", 3), ("value", 7), ("value", 10)))], [3, 7, 10]),
            ([], [3, 7, 10]),
        ])


class SecondExampleTest(unittest.TestCase):
    def test_both(self):
        for runtime in (Runtime(), PlainRuntime()):
            self.assertEqual(runtime.boundary(0), 1)
            self.assertEqual(runtime.signal(0, 0), 2)
            program = [("if", ("equal", ("read", "s"), ("value", 2)), [("raise", ("value", "bad"))], []),
                       ("emit", ("read", "s"))]
            self.assertEqual(runtime.effect(1, program, {"s": ("node", 2)}), 3)
            self.assertEqual(runtime.delivered(), [0])
            runtime.write(2, 1)
            self.assertEqual(runtime.delivered(), [0, 1])
            self.assertIs(runtime.read(1), None)
            runtime.write(2, 2)
            self.assertEqual(runtime.runs(), [(3, ("changed", ("value", 2), ("value", 1), ("value", 2)))])
            self.assertEqual(runs_of_effects(runtime), runtime.runs())
            self.assertEqual(runtime.delivered(), [0, 1])
            self.assertIs(runtime.is_disposed(3), True)
            self.assertEqual(runtime.read(1), "error bad")
            runtime.write(2, 3)
            self.assertEqual(runtime.runs(), [])
            self.assertEqual(runtime.delivered(), [0, 1])
            self.assertEqual(runtime.read(1), "error bad")
            self.assertIs(runtime.reset(1), None)
            self.assertIs(runtime.read(1), None)


if __name__ == "__main__":
    unittest.main()
