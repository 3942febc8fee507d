"""What the tests share: short words for programs, and two runtimes that are called alike."""

import copy
import unittest

from ripplewell.errors import RippleError
from ripplewell.readings import same
from ripplewell.runtimes import PlainRuntime, Runtime

NO_RUNS = ("context", "provide", "use", "subscribe", "close", "answer", "is_disposed", "delivered",
           "requests", "runs", "dependencies", "nodes")


def value(thing):
    return ("value", thing)


def read(name):
    return ("read", name)


def var(name):
    return ("var", name)


def emit(thing):
    """An emit of a value, or of an expression if a tuple is passed."""
    return ("emit", thing if isinstance(thing, tuple) else value(thing))


def give(thing):
    return ("return", thing if isinstance(thing, tuple) else value(thing))


def fail(text):
    return ("raise", value(text))


def node(number):
    return ("node", number)


def names(**numbers):
    """A setting that names nodes."""
    return {name: ("node", number) for name, number in numbers.items()}


def attempt(block):
    """A block that emits the message of the error that another block raises."""
    return [("try", block, "message", [("emit", ("var", "message"))])]


def outcome(runtime, method, arguments):
    """What a call gives: its result, or the message of its error."""
    try:
        return ("result", getattr(runtime, method)(*copy.deepcopy(arguments)))
    except RippleError as error:
        return ("error", error.message)


def exact(thing):
    """A text that tells True from 1, and a list from a tuple."""
    return repr(thing)


def runs_of_effects(runtime):
    """The runs of effects and keyed effects, as long as no number of the last call has been used twice."""
    kinds = [kind for kind, _, _ in runtime.nodes()]
    # The numbers of nodes whose transaction failed are gone.
    return [run for run in runtime.runs() if run[0] < len(kinds) and kinds[run[0]] in ("effect", "keyed")]


class Both:
    """A Runtime and a PlainRuntime. Each call goes to both, and both have to answer alike.

    What a call gives is the answer of the Runtime; so are its runs.
    """

    def __init__(self):
        self.kept = Runtime()
        self.plain = PlainRuntime()
        self.pulls = 0

    def __getattr__(self, method):
        def call(*arguments):
            return self.call(method, arguments)
        return call

    def call(self, method, arguments):
        one = outcome(self.kept, method, arguments)
        if method in ("runs", "dependencies"):
            return self.result(one)
        two = outcome(self.plain, method, arguments)
        if exact(one) != exact(two):
            raise AssertionError(f"{method}{arguments}: {one} of a Runtime, {two} of a PlainRuntime")
        if method not in NO_RUNS:
            self.compare(method, arguments)
        return self.result(one)

    def result(self, given):
        if given[0] == "error":
            raise RippleError(given[1])
        return given[1]

    def compare(self, method, arguments):
        one, two = told(self.kept), told(self.plain)
        one["runs"], two["runs"] = runs_of_effects(self.kept), runs_of_effects(self.plain)
        for name in one:
            if exact(one[name]) != exact(two[name]):
                raise AssertionError(f"{name} behind {method}{arguments}: {one[name]}, plainly {two[name]}")


class CallTest(unittest.TestCase):
    """A test whose runtime is a Both."""

    def fails(self, message, method, *arguments):
        """Make a call that has to raise an error, and to change nothing."""
        before = everything(self.runtime.kept)
        with self.assertRaises(RippleError) as caught:
            getattr(self.runtime, method)(*arguments)
        self.assertEqual(caught.exception.message, message)
        self.assertEqual(everything(self.runtime.kept), before)


def told(runtime):
    """What a runtime tells without a read, but for what only a Runtime keeps."""
    nodes = runtime.nodes()
    answers = []
    while True:
        try:
            answers.append(runtime.answer(len(answers)))
        except RippleError:
            break
    return {
        "nodes": nodes,
        "delivered": runtime.delivered(),
        "requests": runtime.requests(),
        "answers": answers,
        "dependencies": [runtime.dependencies(number) for number, (kind, _, _) in enumerate(nodes)
                         if kind in ("effect", "keyed")],
    }


def everything(runtime):
    """All that can be told and read of a runtime, found out with a copy of it."""
    other = copy.deepcopy(runtime)
    found = told(other)
    found["kept"] = []
    found["readings"] = []
    nodes = other.nodes()
    for number, (kind, _, _) in enumerate(nodes):
        if kind in ("computed", "resource", "effect", "keyed"):
            found["kept"].append(other.dependencies(number))
    for number, (kind, _, _) in enumerate(nodes):
        for source in sources_of(number, kind):
            found["readings"].append((source, other.reading(source)))
    found["contexts"] = []
    for number, (kind, _, active) in enumerate(nodes):
        if kind in ("scope", "boundary") and active:
            found["contexts"].append(contexts_of(other, number))
    return found


def contexts_of(runtime, number):
    found = []
    while True:
        try:
            found.append(runtime.use(number, len(found)))
        except RippleError:
            return found


def sources_of(number, kind):
    if kind == "store":
        return [("keys", number)] + [(word, number, key) for word in ("get", "has") for key in ("a", "b", "c")]
    if kind == "resource":
        return [("value", number), ("state", number)]
    if kind in ("signal", "boundary", "computed"):
        return [("value", number)]
    return []


def check_what_holds(test, runtime):
    """Check what holds between calls, of effects, keyed effects, nodes and resources."""
    nodes = runtime.nodes()
    other = copy.deepcopy(runtime)
    test.assertEqual(nodes[0], ("scope", None, True))
    test.assertLessEqual(len([1 for entry in nodes if entry[2]]), 24)
    for number, (kind, owner, active) in enumerate(nodes):
        if number > 0:
            test.assertLess(owner, number)
            test.assertIn(nodes[owner][0], ("scope", "boundary", "effect", "keyed"))
        if not active:
            continue
        if owner is not None:
            test.assertTrue(nodes[owner][2], "an active node has an active owner")
        if kind in ("effect", "keyed"):
            recorded = runtime.dependencies(number)
            test.assertIsNotNone(recorded, "every active effect has been executed")
            for source, reading in recorded:
                test.assertTrue(same(other.reading(source), reading), (number, source, reading))
        if kind == "keyed":
            members = [entry for entry in nodes if entry[1] == number and entry[2]]
            test.assertLessEqual(len(members), len(runtime.dependencies(number)[0][1][1]))
        if kind == "resource" and other.state(number) in ("pending", "ready"):
            test.assertTrue(other.requests())


class Names:
    """Makes nodes of each kind for tests that need one of each."""

    def __init__(self, runtime):
        self.scope = runtime.scope(0)
        self.boundary = runtime.boundary(0)
        self.signal = runtime.signal(0, 1)
        self.store = runtime.store(0, [("a", 1), ("b", 2)])
        self.computed = runtime.computed(0, [("return", ("value", 3))], {})
        self.effect = runtime.effect(0, [], {})
        self.keyed = runtime.keyed(0, self.store, "k", [], {})
        self.resource = runtime.resource(0, [("return", ("value", None))], {})
        self.context = runtime.context("default")

    def setting(self):
        found = {name: ("node", number) for name, number in vars(self).items() if name != "context"}
        found["context"] = ("context", self.context)
        found["number"] = 5
        found["text"] = "text"
        return found
