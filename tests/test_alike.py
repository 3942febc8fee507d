"""Points [39] and [40]: rows of calls, made alike to a Runtime, a PlainRuntime and the models of both."""

import copy
import unittest

from ripplewell.errors import RippleError
from ripplewell.runtimes import PlainRuntime, Runtime

from helping import check_what_holds, exact, everything, sources_of, told
from model import Failure, Model
from rows import Chance

ROWS = 60
CALLS = 45


class Four:
    """The four runtimes, and how many subscriptions they have."""

    def __init__(self, test):
        self.test = test
        self.kept, self.plain = Runtime(), PlainRuntime()
        self.models = [Model(False), Model(True)]
        self.subscriptions = 0
        self.past = []

    def given(self, runtime, method, arguments):
        name = "dispose_call" if isinstance(runtime, Model) and method == "dispose" else method
        try:
            return ("result", getattr(runtime, name)(*copy.deepcopy(arguments)))
        except (RippleError, Failure) as error:
            return ("error", error.message)

    def call(self, method, arguments):
        before = everything(self.kept)
        first = self.given(self.kept, method, arguments)
        for other in [self.plain] + self.models:
            self.alike(first, self.given(other, method, arguments))
        if method == "subscribe" and first[0] == "result":
            self.subscriptions = first[1] + 1
        if method == "undo":
            self.subscriptions = len(self.models[0].world["watches"])
        self.compare()
        self.look_at(method, first, before)
        return first

    def alike(self, one, two):
        self.test.assertEqual(exact(one), exact(two))

    def compare(self):
        self.alike(self.kept.runs(), self.models[0].runs())
        self.alike(self.plain.runs(), self.models[1].runs())
        self.alike(self.models[0].runs_of_effects(), self.models[1].runs())
        self.alike(told(self.kept), told(self.plain))
        for runtime, model in ((self.kept, self.models[0]), (self.plain, self.models[1])):
            self.alike(runtime.nodes(), model.nodes())
            self.alike(runtime.delivered(), model.delivered())
            self.alike(runtime.requests(), model.requests())
            self.alike(told(runtime)["answers"], model.world["answers"])
            for number, (kind, _, _) in enumerate(runtime.nodes()):
                if kind in ("computed", "resource", "effect", "keyed"):
                    self.alike(runtime.dependencies(number), model.dependencies(number))

    def look_at(self, method, given, before):
        """Check what holds behind a call."""
        after = everything(self.kept)
        self.alike(everything(self.plain)["readings"], after["readings"])
        model = copy.deepcopy(self.models[0])
        for source, reading in after["readings"]:
            self.alike(reading, model.reading(source))
        if given[0] == "error" and method not in ("read", "state", "get", "has", "keys"):
            self.alike(before, after)
        if given == ("result", False) and method in ("respond", "reject"):
            self.alike(before, after)
        check_what_holds(self.test, self.kept)
        if method != "undo":
            for old, new in zip(before["nodes"], after["nodes"]):
                self.test.assertFalse(new[2] and not old[2], "disposed nodes stay disposed")
        self.check_requests(model)
        self.check_subscriptions()

    def check_requests(self, model):
        """Every active resource has requested its present key, if it has one."""
        for number, (kind, _, active) in enumerate(self.kept.nodes()):
            key = model.computed_reading(number) if kind == "resource" and active else ("value", None)
            if key[0] == "value" and key[1] is not None:
                self.alike(self.kept.requests()[model.node(number)["latest"]], key[1])

    def check_subscriptions(self):
        """Pulls are answered in order, no two reports in a row are the same, and no pull waits in vain."""
        other = copy.deepcopy(self.kept)
        for watch in self.models[0].world["watches"]:
            answers = [self.kept.answer(pull) for pull in watch["pulls"]]
            reports = [answer for answer in answers if answer is not None and answer != ("end",)]
            waiting = [answer for answer in answers if answer is None]
            ends = len(answers) - len(reports) - len(waiting)
            self.alike(answers, reports + [("end",)] * ends + waiting)
            self.test.assertFalse(ends and waiting)
            for one, two in zip(reports, reports[1:]):
                self.test.assertNotEqual(exact(one), exact(two))
            if waiting:
                self.test.assertFalse(other.is_disposed(watch["node"]))
                self.alike(other.reading(("value", watch["node"])), reports[-1])

    # What the rows ask of a runtime.

    def nodes(self):
        return self.kept.nodes()

    def requests(self):
        return self.kept.requests()

    def use(self, node, context):
        return self.kept.use(node, context)


def run_row(test, seed, calls):
    """Make a row of calls; return the methods with what they gave."""
    chance, four = Chance(seed), Four(test)
    found = []
    for at in range(calls):
        method, arguments = chance.call(four)
        with test.subTest(seed=seed, at=at, method=method, arguments=repr(arguments)):
            found.append((method, four.call(method, arguments)))
            continue
        break
    return found


class AlikeTest(unittest.TestCase):
    def test_rows_of_calls(self):
        for seed in range(ROWS):
            run_row(self, seed, CALLS)

    def test_the_rows_meet_what_they_are_for(self):
        """Each method has results, and the errors of programs and propagation occur."""
        found = []
        for seed in range(1000, 1012):
            found.extend(run_row(self, seed, CALLS))
        results = {method for method, given in found if given[0] == "result"}
        self.assertGreater(len(results), 25)
        errors = {given[1] for _, given in found if given[0] == "error"}
        self.assertTrue({"disposed", "no such variable"} <= errors, errors)


class SecondReadTest(unittest.TestCase):
    """No program is executed twice for a node in one read, and none in a second read behind it."""

    def test_rows_of_calls(self):
        for seed in range(2000, 2040):
            chance, four = Chance(seed), Four(self)
            for _ in range(25):
                method, arguments = chance.call(four)
                four.given(four.kept, method, arguments)
                if method == "subscribe":
                    four.subscriptions += 1
                if method == "undo":
                    four.subscriptions = 0
            for number, (kind, _, _) in enumerate(four.nodes()):
                for source in sources_of(number, kind):
                    four.kept.reading(source)
                    numbers = [run[0] for run in four.kept.runs()]
                    self.assertEqual(len(numbers), len(set(numbers)))
                    first = four.kept.reading(source)
                    self.assertEqual(four.kept.runs(), [])
                    self.assertEqual(exact(four.kept.reading(source)), exact(first))


if __name__ == "__main__":
    unittest.main()
