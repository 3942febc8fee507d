"""The interface: names, arguments, and the errors of calls."""

import inspect
import unittest

from ripplewell import runtimes
from ripplewell.errors import RippleError
from ripplewell.runtimes import PlainRuntime, Runtime

from helping import Both, Names, check_what_holds, everything, give

METHODS = {
    "signal": ["owner", "value"], "store": ["owner", "pairs"], "scope": ["owner"], "boundary": ["owner"],
    "computed": ["owner", "program", "setting"], "effect": ["owner", "program", "setting"],
    "resource": ["owner", "program", "setting"], "keyed": ["owner", "store", "name", "program", "setting"],
    "context": ["default"], "provide": ["node", "context", "value"], "use": ["node", "context"],
    "emit": ["node", "value"], "cleanup": ["node", "value"], "dispose": ["node"], "write": ["node", "value"],
    "put": ["node", "key", "value"], "remove": ["node", "key"], "reset": ["node"],
    "read": ["node"], "state": ["node"], "get": ["node", "key"], "has": ["node", "key"], "keys": ["node"],
    "reading": ["source"], "is_disposed": ["node"],
    "transaction": ["node", "program", "setting"], "respond": ["request", "value"], "reject": ["request", "message"],
    "subscribe": ["node"], "pull": ["subscription"], "close": ["subscription"], "answer": ["pull"], "undo": [],
    "delivered": [], "requests": [], "runs": [], "dependencies": ["node"], "nodes": [],
}


class Odd:
    def __eq__(self, other):
        return True

    __hash__ = None


NO_NUMBERS = [None, True, False, -1, 99, 10 ** 30, "a", "0", 0.0, 1.0, b"", (), [], {}, (0,), [0], object(), Odd()]
NO_VALUES = [-1, 1000, "x" * 41, 1.0, b"a", (), [], {}, ("value", 1), object(), Odd()]
NO_KEYS = ["", "A", "abcdefghi", "a b", "a1", None, 1, True, b"a", ("a",), ["a"], object(), Odd()]
NO_PAIRS = [None, 1, "a", (), (("a", 1),), {"a": 1}, [None], ["a"], [("a",)], [("a", 1, 2)], [["a", 1]], [("A", 1)],
            [(1, 1)], [("a", -1)], [("a", ("value", 1))], [("a", 1), ("a", 2)], [("a", 1), ("b", 1), ("a", 1)],
            [("a", [])], [(["a"], 1)], [(key, 1) for key in "abcdefghi"], Odd()]
NO_PROGRAMS = [None, 1, "a", (), {}, [None], [()], [("emit", 1)], [["emit", ("value", 1)]], (("emit", ("value", 1)),),
               [("unknown",)], [("emit", ("value", 1))] * 201, ("emit", ("value", 1)), Odd()]
NO_SETTINGS = [None, 1, "a", (), [], [("a", 1)], {"A": 1}, {"": 1}, {1: 1}, {None: 1}, {"abcdefghi": 1}, {"a": -1},
               {"a": 1000}, {"a": "x" * 41}, {"a": []}, {"a": ()}, {"a": ("node",)}, {"a": ("node", 99)},
               {"a": ("node", -1)}, {"a": ("node", True)}, {"a": ("node", None)}, {"a": ("node", "0")},
               {"a": ("node", 1, 2)}, {"a": ["node", 1]}, {"a": ("value", 1)}, {"a": ("value", 0)}, {"a": (Odd(), 0)},
               {"a": ("signal", 0)}, {"a": ("context", 0, 0)}, {"a": ("context", 9)},
               {"a": ("context", -1)}, {"a": ("context", False)}, {"a": ("context", "x")}, {"a": ("context",)},
               {"a": (1, 1)}, {"a": (["node"], 1)}, {"a": 1, "b": None, "c": 1.5}, {("a",): 1}, Odd(), {"a": Odd()}]
NO_MESSAGES = [None, 1, True, "x" * 41, b"a", (), [], ("error", "a"), Odd()]

KEEPERS = ("scope", "boundary")
READABLE = ("signal", "boundary", "computed", "resource")
DISPOSABLE = ("scope", "boundary", "effect", "keyed", "resource")
KINDS = ("scope", "boundary", "signal", "store", "computed", "effect", "keyed", "resource")

# What each argument of each method can be: the kinds of a node, or a word.
ARGUMENTS = {
    "signal": [KEEPERS, "value"], "store": [KEEPERS, "pairs"], "scope": [KEEPERS], "boundary": [KEEPERS],
    "computed": [KEEPERS, "program", "setting"], "effect": [KEEPERS, "program", "setting"],
    "resource": [KEEPERS, "program", "setting"], "keyed": [KEEPERS, ("store",), "key", "program", "setting"],
    "context": ["value"], "provide": [KEEPERS, "context", "value"], "use": [KEEPERS, "context"],
    "emit": [KEEPERS, "value"], "cleanup": [KEEPERS, "value"], "dispose": [DISPOSABLE],
    "write": [("signal",), "value"], "put": [("store",), "key", "value"], "remove": [("store",), "key"],
    "reset": [("boundary",)], "read": [READABLE], "state": [("resource",)], "get": [("store",), "key"],
    "has": [("store",), "key"], "keys": [("store",)], "is_disposed": [KINDS],
    "transaction": [KEEPERS, "program", "setting"], "respond": ["request", "value"], "reject": ["request", "message"],
    "subscribe": [READABLE], "pull": ["subscription"], "close": ["subscription"], "answer": ["pull"],
    "dependencies": [("computed", "resource", "effect", "keyed")],
}

WRONG = {
    "value": (NO_VALUES, "not a value"), "key": (NO_KEYS, "not a key"), "pairs": (NO_PAIRS, "not pairs"),
    "program": (NO_PROGRAMS, "not a program"), "setting": (NO_SETTINGS, "not a setting"),
    "message": (NO_MESSAGES, "not a message"), "context": (NO_NUMBERS, "no such context"),
    "subscription": (NO_NUMBERS, "no such subscription"), "pull": (NO_NUMBERS, "no such pull"),
    "request": (NO_NUMBERS, "no such request"),
}

RIGHT = {"value": 1, "key": "a", "pairs": [("a", 1)], "program": [], "setting": {}, "message": "no", "context": 0,
         "subscription": 0, "pull": 0, "request": 0}


class InterfaceTest(unittest.TestCase):
    def test_each_method_stands_in_the_body_of_both_classes(self):
        for home in (Runtime, PlainRuntime):
            self.assertEqual(home.__module__, "ripplewell.runtimes")
            self.assertIs(vars(runtimes)[home.__name__], home)
            for name, arguments in METHODS.items():
                self.assertIn(name, vars(home), name)
                self.assertEqual(list(inspect.signature(vars(home)[name]).parameters), ["self"] + arguments)

    def test_arguments_by_name(self):
        for home in (Runtime, PlainRuntime):
            runtime = home()
            self.assertEqual(runtime.signal(owner=0, value=1), 1)
            self.assertEqual(runtime.store(owner=0, pairs=[("a", 1)]), 2)
            self.assertEqual(runtime.keyed(owner=0, store=2, name="k", program=[], setting={}), 3)
            self.assertEqual(runtime.context(default=1), 0)
            self.assertEqual(runtime.use(node=0, context=0), 1)
            self.assertEqual(runtime.reading(source=("get", 2, "a")), ("value", 1))
            self.assertEqual(runtime.transaction(node=0, program=[give(1)], setting={}), 1)
            self.assertEqual(runtime.answer(pull=runtime.pull(subscription=runtime.subscribe(node=1))), ("value", 1))

    def test_runtimes_are_apart(self):
        for home in (Runtime, PlainRuntime):
            one, two = home(), home()
            one.signal(0, 1)
            one.context(1)
            one.emit(0, 1)
            self.assertEqual(two.nodes(), [("scope", None, True)])
            self.assertEqual(two.delivered(), [])
            self.assertIs(two.undo(), False)


class ErrorsTest(unittest.TestCase):
    def setUp(self):
        self.runtime = Both()
        self.names = Names(self.runtime)
        self.request = self.runtime.resource(0, [give("key")], {})
        self.runtime.pull(self.runtime.subscribe(self.names.signal))
        self.before = everything(self.runtime.kept)

    def right(self, argument):
        return getattr(self.names, argument[0]) if isinstance(argument, tuple) else RIGHT[argument]

    def wrong(self, argument):
        """Pairs of a wrong thing and the message."""
        if not isinstance(argument, tuple):
            things, message = WRONG[argument]
            return [(thing, message) for thing in things]
        found = [(thing, "no such node") for thing in NO_NUMBERS]
        return found + [(getattr(self.names, kind), "wrong kind") for kind in KINDS if kind not in argument]

    def fails(self, message, method, arguments):
        for runtime in (self.runtime.kept, self.runtime.plain):
            with self.subTest(method=method, arguments=repr(arguments)):
                with self.assertRaises(RippleError) as caught:
                    getattr(runtime, method)(*arguments)
                self.assertEqual(caught.exception.message, message)
                self.assertIs(type(caught.exception.message), str)

    def test_each_argument_of_each_method(self):
        for method, arguments in ARGUMENTS.items():
            for at, argument in enumerate(arguments):
                for thing, message in self.wrong(argument):
                    passed = [self.right(other) for other in arguments]
                    passed[at] = thing
                    self.fails(message, method, passed)
        self.assertEqual(everything(self.runtime.kept), self.before)
        check_what_holds(self, self.runtime.kept)

    def test_the_first_message_from_left_to_right(self):
        for method, arguments in ARGUMENTS.items():
            for at, argument in enumerate(arguments):
                thing, message = self.wrong(argument)[-1] if self.wrong(argument) else (None, None)
                passed = [self.right(other) for other in arguments[:at]] + [thing] + [
                    self.wrong(other)[0][0] for other in arguments[at + 1:]]
                if message is not None:
                    self.fails(message, method, passed)
        self.assertEqual(everything(self.runtime.kept), self.before)

    def test_every_method_is_looked_at(self):
        self.assertEqual(set(ARGUMENTS) | {"reading", "undo", "delivered", "requests", "runs", "nodes"}, set(METHODS))

    def test_sources(self):
        kinds = {"value": READABLE, "state": ("resource",), "get": ("store",), "has": ("store",), "keys": ("store",)}
        for word, fitting in kinds.items():
            rest = ("a",) if word in ("get", "has") else ()
            for thing in NO_NUMBERS:
                self.fails("no such node", "reading", [(word, thing) + rest])
            for kind in KINDS:
                if kind not in fitting:
                    self.fails("wrong kind", "reading", [(word, getattr(self.names, kind)) + rest])
            if rest:
                for thing in NO_KEYS:
                    self.fails("not a key", "reading", [(word, self.names.store, thing)])
                    self.fails("wrong kind", "reading", [(word, self.names.signal, thing)])
                    self.fails("no such node", "reading", [(word, 99, thing)])
        for source in (None, 1, (), ("value",), ("value", 0, "a"), ("get", 0), ("get", 0, "a", "b"), ("unknown", 0),
                       ["value", 0], (1, 0), (["value"], 0), "value", Odd(), (Odd(), 0)):
            self.fails("not a source", "reading", [source])
        self.assertEqual(everything(self.runtime.kept), self.before)

    def test_arguments_ahead_of_what_is_done(self):
        scope = self.runtime.scope(0)
        signal = self.runtime.signal(scope, 1)
        store = self.runtime.store(scope, [])
        self.runtime.dispose(scope)
        for method, arguments, message in (
                ("signal", (scope, -1), "not a value"), ("store", (scope, 1), "not pairs"),
                ("computed", (scope, 1, 1), "not a program"), ("computed", (scope, [], 1), "not a setting"),
                ("keyed", (scope, store, "A", 1, 1), "not a key"), ("keyed", (scope, store, "a", 1, 1), "not a program"),
                ("keyed", (scope, store, "a", [], 1), "not a setting"), ("keyed", (scope, store, "a", [], {}), "disposed"),
                ("emit", (scope, -1), "not a value"), ("cleanup", (scope, -1), "not a value"),
                ("write", (signal, -1), "not a value"), ("put", (store, "A", -1), "not a key"),
                ("put", (store, "a", -1), "not a value"), ("remove", (store, "A"), "not a key"),
                ("get", (store, "A"), "not a key"), ("has", (store, "A"), "not a key"),
                ("transaction", (scope, 1, 1), "not a program"), ("transaction", (scope, [], 1), "not a setting"),
                ("get", (store, "a"), "disposed"), ("write", (signal, 1), "disposed"), ("scope", (scope,), "disposed")):
            self.fails(message, method, arguments)

    def test_settings_that_are_right(self):
        setting = self.names.setting()
        setting.update({"a": None, "b": True, "c": 0, "abcdefgh": "x" * 40})
        self.assertIs(self.runtime.transaction(0, [], setting), None)
        scope = self.runtime.scope(0)
        self.runtime.dispose(scope)
        self.assertIs(self.runtime.transaction(0, [], {"gone": ("node", scope), "root": ("node", 0)}), None)

    def test_pairs_that_are_right(self):
        self.assertEqual(self.runtime.keys(self.runtime.store(0, [])), [])
        number = self.runtime.store(0, [(key, key) for key in "hgfedcba"])
        self.assertEqual(self.runtime.keys(number), list("hgfedcba"))
        self.assertEqual(self.runtime.get(number, "h"), "h")

    def test_runs_of_a_call_whose_arguments_are_wrong(self):
        for method, arguments in ARGUMENTS.items():
            self.runtime.kept.effect(0, [], {})
            self.assertEqual(len(self.runtime.kept.runs()), 1)
            passed = [self.wrong(argument)[0][0] for argument in arguments]
            with self.assertRaises(RippleError):
                getattr(self.runtime.kept, method)(*passed)
            others = ("context", "provide", "use", "subscribe", "close", "answer", "is_disposed", "dependencies")
            self.assertEqual(len(self.runtime.kept.runs()), 1 if method in others else 0, method)
            self.runtime.kept.undo()

    def test_numbers_that_are_free_again(self):
        number = self.runtime.signal(0, 1)
        self.runtime.undo()
        self.fails("no such node", "read", [number])
        self.fails("not a setting", "transaction", [0, [], {"a": ("node", number)}])


class ReadingCallsTest(unittest.TestCase):
    def setUp(self):
        self.runtime = Both()
        self.names = Names(self.runtime)

    def test_values(self):
        self.assertEqual(self.runtime.read(self.names.signal), 1)
        self.assertIs(self.runtime.read(self.names.boundary), None)
        self.assertEqual(self.runtime.read(self.names.computed), 3)
        self.assertIs(self.runtime.read(self.names.resource), None)
        self.assertEqual(self.runtime.state(self.names.resource), "idle")

    def test_stores(self):
        store = self.names.store
        self.assertEqual(self.runtime.get(store, "a"), 1)
        self.assertIs(self.runtime.get(store, "z"), None)
        self.assertIs(self.runtime.has(store, "a"), True)
        self.assertIs(self.runtime.has(store, "z"), False)
        self.assertEqual(self.runtime.keys(store), ["a", "b"])
        self.runtime.put(store, "n", None)
        self.assertIs(self.runtime.get(store, "n"), None)
        self.assertIs(self.runtime.has(store, "n"), True)

    def test_readings(self):
        store = self.names.store
        for source, reading in (
                (("value", self.names.signal), ("value", 1)), (("value", self.names.boundary), ("value", None)),
                (("value", self.names.computed), ("value", 3)), (("value", self.names.resource), ("value", None)),
                (("state", self.names.resource), ("value", "idle")), (("get", store, "a"), ("value", 1)),
                (("get", store, "z"), ("absent",)), (("has", store, "a"), ("value", True)),
                (("has", store, "z"), ("value", False)), (("keys", store), ("keys", ("a", "b")))):
            self.assertEqual(repr(self.runtime.reading(source)), repr(reading))

    def test_dependencies_of_each_kind(self):
        self.assertIs(self.runtime.dependencies(self.names.computed), None)
        self.assertEqual(self.runtime.dependencies(self.names.resource), [])
        self.assertEqual(self.runtime.dependencies(self.names.effect), [])
        self.assertEqual(self.runtime.dependencies(self.names.keyed),
                         [(("keys", self.names.store), ("keys", ("a", "b")))])

    def test_dependencies_of_a_plain_runtime(self):
        plain = PlainRuntime()
        signal = plain.signal(0, 1)
        number = plain.computed(0, [give(("read", "s"))], {"s": ("node", signal)})
        resource = plain.resource(0, [give(("read", "s"))], {"s": ("node", signal)})
        self.assertEqual((plain.read(number), plain.state(resource)), (1, "pending"))
        self.assertEqual(plain.runs(), [])
        self.assertIs(plain.dependencies(number), None)
        self.assertIs(plain.dependencies(resource), None)
        effect = plain.effect(0, [("emit", ("read", "c"))], {"c": ("node", number)})
        self.assertEqual(plain.dependencies(effect), [(("value", number), ("value", 1))])
        self.assertEqual(plain.runs(), [(effect, ("first",))])
        plain.write(signal, 2)
        self.assertEqual(plain.runs(), [(effect, ("changed", ("value", number), ("value", 1), ("value", 2)))])


if __name__ == "__main__":
    unittest.main()
