"""Points [12], [14], [16] and [18]: every expression, in each kind of program."""

import unittest

from helping import Both, Names, emit, give, names, node, read, value, var

V = value(1)


def in_transaction(runtime, expression, setting):
    try:
        return ("value", runtime.transaction(0, [("return", expression)], setting))
    except ValueError as error:
        return ("error", error.message)


def in_effect(runtime, expression, setting):
    boundary = runtime.boundary(0)
    before = len(runtime.delivered())
    runtime.effect(boundary, [("emit", expression)], setting)
    error = runtime.read(boundary)
    found = ("value", runtime.delivered()[before]) if error is None else ("error", error)
    runtime.dispose(boundary)
    return found


def in_computed(runtime, expression, setting):
    scope = runtime.scope(0)
    found = runtime.reading(("value", runtime.computed(scope, [("return", expression)], setting)))
    runtime.dispose(scope)
    return found


def in_resource(runtime, expression, setting):
    number = runtime.resource(0, [("return", expression)], setting)
    state = runtime.state(number)
    found = runtime.reading(("value", number))
    if state == "pending":
        found = ("value", runtime.requests()[-1])
    runtime.dispose(number)
    return found


MODES = {"transaction": in_transaction, "effect": in_effect, "computed": in_computed, "resource": in_resource}


class ExpressionTest(unittest.TestCase):
    def setUp(self):
        self.runtime = Both()
        self.names = Names(self.runtime)
        self.setting = self.names.setting()

    def check(self, expression, expected, modes=tuple(MODES)):
        for mode in modes:
            with self.subTest(mode=mode, expression=expression):
                found = MODES[mode](self.runtime, expression, self.setting)
                self.assertEqual(repr(found), repr(expected))

    def gives(self, expression, thing):
        self.check(expression, ("value", thing))

    def fails(self, expression, message, modes=tuple(MODES)):
        self.check(expression, ("error", message), modes)


class ValuesTest(ExpressionTest):
    def test_value(self):
        for thing in (None, False, True, 0, 1, 999, "", "a", "x" * 40):
            self.gives(("value", thing), thing)

    def test_var(self):
        for thing in (None, False, True, 0, 1, "", "none"):
            self.setting["thing"] = thing
            self.gives(("var", "thing"), thing)
        self.fails(("var", "missing"), "no such variable")
        for name in ("signal", "store", "scope", "computed", "context"):
            self.fails(("var", name), "wrong kind")

    def test_add(self):
        for one, two, sum_of_both in ((0, 0, 0), (1, 2, 3), (999, 0, 999), (999, 1, 0), (999, 999, 998), (500, 500, 0)):
            self.gives(("add", ("value", one), ("value", two)), sum_of_both)
        for thing in (None, False, True, "", "1", "a"):
            self.gives(("add", ("value", thing), V), None)
            self.gives(("add", V, ("value", thing)), None)
        self.gives(("add", ("value", True), ("value", True)), None)

    def test_join(self):
        for one, two, text in ((None, True, "nonetrue"), (False, 0, "false0"), (12, 34, "1234"), ("", "", ""),
                               ("a", "b", "ab"), ("x" * 40, "y", "x" * 40), ("x" * 39, "yz", "x" * 39 + "y"),
                               ("", "x" * 40, "x" * 40), ("x" * 40, "x" * 40, "x" * 40), (" ", 999, " 999")):
            self.gives(("join", ("value", one), ("value", two)), text)

    def test_equal(self):
        things = (None, False, True, 0, 1, "", "1", "0", "none", "a")
        for at, one in enumerate(things):
            for to, two in enumerate(things):
                self.check(("equal", ("value", one), ("value", two)), ("value", at == to), ("transaction", "computed"))
        self.gives(("equal", ("value", True), V), False)
        self.gives(("equal", ("value", "a"), ("value", "a")), True)

    def test_less(self):
        for one, two, less in ((0, 1, True), (1, 0, False), (1, 1, False), (998, 999, True), (10, 9, False),
                               (False, 1, False), (0, True, False), ("a", "b", False), (None, 1, False),
                               (1, "2", False), (False, True, False)):
            self.gives(("less", ("value", one), ("value", two)), less)

    def test_not(self):
        for thing, negated in ((None, True), (False, True), (0, True), ("", True), (True, False), (1, False),
                               ("a", False), ("false", False), (" ", False)):
            self.gives(("not", ("value", thing)), negated)

    def test_deep_expressions(self):
        deep = ("add", V, ("add", V, ("add", V, ("add", V, V))))
        self.gives(deep, 5)


class NodesTest(ExpressionTest):
    def test_read_and_peek(self):
        for name, thing in (("signal", 1), ("boundary", None), ("computed", 3), ("resource", None)):
            self.gives(("read", name), thing)
            self.check(("peek", name), ("value", thing), ("transaction", "effect"))
            self.fails(("peek", name), "not allowed here", ("computed", "resource"))
        for word in ("read", "peek"):
            modes = tuple(MODES) if word == "read" else ("transaction", "effect")
            self.fails((word, "missing"), "no such variable", modes)
            for name in ("scope", "store", "effect", "keyed", "context", "number", "text"):
                self.fails((word, name), "wrong kind", modes)

    def test_state(self):
        self.gives(("state", "resource"), "idle")
        self.fails(("state", "missing"), "no such variable")
        for name in ("signal", "boundary", "computed", "store", "scope", "effect", "keyed", "context", "number"):
            self.fails(("state", name), "wrong kind")

    def test_get_has_and_size(self):
        self.gives(("get", "store", value("a")), 1)
        self.gives(("get", "store", value("z")), None)
        self.gives(("has", "store", value("b")), True)
        self.gives(("has", "store", value("z")), False)
        self.gives(("size", "store"), 2)
        self.runtime.put(self.names.store, "n", None)
        self.gives(("get", "store", value("n")), None)
        self.gives(("has", "store", value("n")), True)
        self.gives(("size", "store"), 3)
        for expression in (("get", "missing", V), ("has", "missing", V), ("size", "missing")):
            self.fails(expression, "no such variable")
        for name in ("signal", "boundary", "computed", "resource", "scope", "effect", "keyed", "context", "number"):
            for expression in (("get", name, value("a")), ("has", name, value("a")), ("size", name)):
                self.fails(expression, "wrong kind", ("transaction", "computed"))

    def test_keys_that_are_none(self):
        for thing in (None, True, 1, "", "A", "abcdefghi", "a b", "a1"):
            self.fails(("get", "store", ("value", thing)), "not a key")
            self.fails(("has", "store", ("value", thing)), "not a key")

    def test_the_size_is_counted_modulo_1000(self):
        store = self.runtime.kept.store(0, [])
        letters = "abcdefghij"
        keys = [one + two + three for one in letters for two in letters for three in letters]
        for part in range(5):
            program = [("put", "s", value(key), V) for key in keys[part * 200:part * 200 + 200]]
            self.runtime.kept.transaction(0, program, names(s=store))
        self.assertEqual(len(self.runtime.kept.keys(store)), 1000)
        program = [("return", ("size", "s"))]
        self.assertEqual(self.runtime.kept.transaction(0, program, names(s=store)), 0)
        self.runtime.kept.put(store, "z", 1)
        self.assertEqual(self.runtime.kept.transaction(0, program, names(s=store)), 1)

    def test_use(self):
        self.check(("use", "context"), ("value", "default"), ("transaction", "effect"))
        self.fails(("use", "context"), "not allowed here", ("computed", "resource"))
        self.fails(("use", "missing"), "no such variable", ("transaction", "effect"))
        for name in ("signal", "scope", "number", "text"):
            self.fails(("use", name), "wrong kind", ("transaction", "effect"))


class OrderTest(ExpressionTest):
    """Expressions first, from left to right; then variables; then keys; then what is disposed."""

    def test_expressions_are_evaluated_from_left_to_right(self):
        for word in ("add", "join", "equal", "less"):
            self.fails((word, ("var", "missing"), ("var", "signal")), "no such variable")
            self.fails((word, ("var", "signal"), ("var", "missing")), "wrong kind")
            self.fails((word, V, ("var", "missing")), "no such variable")
        self.fails(("not", ("var", "missing")), "no such variable")

    def test_expressions_ahead_of_variables(self):
        for word in ("get", "has"):
            self.fails((word, "missing", ("var", "signal")), "wrong kind")
            self.fails((word, "signal", ("var", "missing")), "no such variable")

    def test_variables_ahead_of_keys(self):
        for word in ("get", "has"):
            self.fails((word, "missing", V), "no such variable")
            self.fails((word, "signal", V), "wrong kind")

    def test_keys_ahead_of_what_is_disposed(self):
        scope = self.runtime.scope(0)
        self.setting["gone"] = node(self.runtime.store(scope, [("a", 1)]))
        self.runtime.dispose(scope)
        for word in ("get", "has"):
            self.fails((word, "gone", V), "not a key")
            self.fails((word, "gone", value("a")), "disposed")
        self.fails(("size", "gone"), "disposed")

    def test_what_is_not_allowed_ahead_of_all_other_errors(self):
        for word in ("peek", "use"):
            for name in ("missing", "number", "scope"):
                self.fails((word, name), "not allowed here", ("computed", "resource"))


class DisposedTest(unittest.TestCase):
    def test_reads_of_disposed_nodes_raise_disposed(self):
        runtime = Both()
        scope = runtime.boundary(0)
        names_of_all = Names(runtime)
        setting = names(
            signal=runtime.signal(scope, 1), boundary=runtime.boundary(scope), store=runtime.store(scope, []),
            computed=runtime.computed(scope, [give(1)], {}), resource=runtime.resource(scope, [give(1)], {}))
        context = runtime.context(1)
        setting["context"] = ("context", context)
        runtime.dispose(scope)
        del names_of_all
        for expression in (read("signal"), read("boundary"), read("computed"), read("resource"),
                           ("state", "resource"), ("get", "store", value("a")), ("has", "store", value("a")),
                           ("size", "store")):
            for mode in MODES:
                self.assertEqual(MODES[mode](runtime, expression, setting), ("error", "disposed"), (mode, expression))
        for expression in (("peek", "signal"), ("peek", "computed")):
            for mode in ("transaction", "effect"):
                self.assertEqual(MODES[mode](runtime, expression, setting), ("error", "disposed"))
        self.assertEqual(in_transaction(runtime, ("use", "context"), setting), ("value", 1))


class RecordingTest(unittest.TestCase):
    """Point [16]: what an execution records."""

    def setUp(self):
        self.runtime = Both()
        self.signal = self.runtime.signal(0, 1)
        self.store = self.runtime.store(0, [("a", 1)])
        self.computed = self.runtime.computed(0, [give(read("s"))], names(s=self.signal))
        self.resource = self.runtime.resource(0, [give(None)], {})
        self.boundary = self.runtime.boundary(0)
        self.setting = names(s=self.signal, t=self.store, c=self.computed, r=self.resource, b=self.boundary)

    def recorded(self, program):
        number = self.runtime.effect(0, program, self.setting)
        return self.runtime.dependencies(number)

    def test_each_kind_of_source(self):
        program = [emit(read("s")), emit(read("b")), emit(read("c")), emit(read("r")), emit(("state", "r")),
                   emit(("get", "t", value("a"))), emit(("get", "t", value("b"))), emit(("has", "t", value("a"))),
                   emit(("size", "t"))]
        expected = [
            (("value", self.signal), ("value", 1)),
            (("value", self.boundary), ("value", None)),
            (("value", self.computed), ("value", 1)),
            (("value", self.resource), ("value", None)),
            (("state", self.resource), ("value", "idle")),
            (("get", self.store, "a"), ("value", 1)),
            (("get", self.store, "b"), ("absent",)),
            (("has", self.store, "a"), ("value", True)),
            (("keys", self.store), ("keys", ("a",))),
        ]
        self.assertEqual(repr(self.recorded(program)), repr(expected))
        self.assertEqual(self.runtime.dependencies(self.computed), [(("value", self.signal), ("value", 1))])

    def test_each_reads_the_keys(self):
        self.assertEqual(self.recorded([("each", "k", "t", [])]), [(("keys", self.store), ("keys", ("a",)))])

    def test_in_the_order_of_the_first_read_and_once(self):
        program = [emit(("add", read("c"), ("add", read("s"), read("c")))), emit(("size", "t")), emit(read("s"))]
        self.assertEqual([source for source, _ in self.recorded(program)],
                         [("value", self.computed), ("value", self.signal), ("keys", self.store)])

    def test_arguments_are_read_ahead(self):
        program = [("let", "k", value("a")), emit(("get", "t", ("join", read("s"), ("size", "t"))))]
        self.setting["s"] = node(self.runtime.signal(0, "a"))
        with self.assertRaises(ValueError):
            self.recorded(program)
        program = [("try", program, "m", [])]
        self.assertEqual([source[0] for source, _ in self.recorded(program)], ["value", "keys"])

    def test_peek_is_not_recorded(self):
        self.assertEqual(self.recorded([emit(("peek", "s")), emit(("peek", "c"))]), [])
        self.assertEqual(self.runtime.dependencies(self.computed), [(("value", self.signal), ("value", 1))])
        self.assertEqual(self.runtime.delivered(), [1, 1])
        self.runtime.write(self.signal, 2)
        self.assertEqual(self.runtime.runs(), [])
        self.assertEqual(self.runtime.delivered(), [1, 1])

    def test_reads_that_are_errors_are_recorded(self):
        bad = self.runtime.computed(0, [("raise", value("x"))], {})
        self.setting["c"] = node(bad)
        self.assertEqual(self.recorded([("try", [emit(read("c"))], "m", [])]),
                         [(("value", bad), ("error", "error x"))])

    def test_errors_ahead_of_the_read_are_not_recorded(self):
        for expression in (("get", "t", value(1)), read("t"), read("missing"), ("state", "c")):
            self.assertEqual(self.recorded([("try", [emit(expression)], "m", [])]), [])

    def test_only_what_the_execution_came_to(self):
        program = [("if", read("s"), [emit(read("c"))], [emit(("size", "t"))])]
        number = self.runtime.effect(0, program, self.setting)
        self.assertEqual([source for source, _ in self.runtime.dependencies(number)],
                         [("value", self.signal), ("value", self.computed)])
        self.runtime.write(self.signal, 0)
        self.assertEqual([source for source, _ in self.runtime.dependencies(number)],
                         [("value", self.signal), ("keys", self.store)])

    def test_reads_in_a_block_that_failed_are_recorded(self):
        program = [("try", [emit(read("s")), ("raise", value(1))], "m", [emit(("size", "t"))])]
        self.assertEqual([source for source, _ in self.recorded(program)],
                         [("value", self.signal), ("keys", self.store)])

    def test_a_transaction_and_reads_from_outside_record_nothing(self):
        self.runtime.transaction(0, [emit(read("s")), emit(read("c"))], self.setting)
        self.runtime.read(self.computed)
        self.assertEqual(self.runtime.dependencies(self.computed), [(("value", self.signal), ("value", 1))])
        self.runtime.write(self.signal, 2)
        self.assertEqual(self.runtime.runs(), [])

    def test_the_first_reading_is_recorded_where_a_later_one_differs(self):
        scope = self.runtime.scope(0)
        inner = self.runtime.signal(scope, 4)
        reading = ("try", [emit(read("i"))], "m", [emit(var("m"))])
        number = self.runtime.effect(0, [reading, ("dispose", "z"), reading], names(i=inner, z=scope))
        self.assertEqual(self.runtime.delivered(), [4, "disposed", "disposed", "disposed"])
        source = ("value", inner)
        self.assertEqual(self.runtime.runs(), [
            (number, ("first",)), (number, ("changed", source, ("value", 4), ("error", "disposed")))])
        self.assertEqual(self.runtime.dependencies(number), [(source, ("error", "disposed"))])


if __name__ == "__main__":
    unittest.main()
