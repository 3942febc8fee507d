"""Points [7], [8], [18], [23] and [24]: owners, disposing, cleanups, and disposals from within effects."""

import unittest

from helping import Both, CallTest, attempt, check_what_holds, emit, names, read, value, var

FIRST = ("first",)
V = value(1)


def when(number, *statements):
    return ("if", ("equal", read("s"), value(number)), list(statements), [])


class DisposalTest(CallTest):
    def setUp(self):
        self.runtime = Both()
        self.s = self.runtime.signal(0, 0)

    def effect(self, owner, *program, **numbers):
        return self.runtime.effect(owner, list(program), names(s=self.s, **numbers))

    def active(self):
        return [number for number, entry in enumerate(self.runtime.nodes()) if entry[2]]

    def tearDown(self):
        check_what_holds(self, self.runtime.kept)


class NodesTest(unittest.TestCase):
    def test_the_root(self):
        runtime = Both()
        self.assertEqual(runtime.nodes(), [("scope", None, True)])
        self.assertIs(runtime.is_disposed(0), False)

    def test_numbers_and_owners(self):
        runtime = Both()
        self.assertEqual(runtime.scope(0), 1)
        self.assertEqual(runtime.boundary(1), 2)
        self.assertEqual(runtime.signal(2, 1), 3)
        self.assertEqual(runtime.store(1, []), 4)
        self.assertEqual(runtime.computed(2, [], {}), 5)
        self.assertEqual(runtime.effect(2, [], {}), 6)
        self.assertEqual(runtime.resource(0, [], {}), 7)
        self.assertEqual(runtime.keyed(1, 4, "k", [], {}), 8)
        self.assertEqual(runtime.nodes(), [
            ("scope", None, True), ("scope", 0, True), ("boundary", 1, True), ("signal", 2, True), ("store", 1, True),
            ("computed", 2, True), ("effect", 2, True), ("resource", 0, True), ("keyed", 1, True)])
        runtime.dispose(2)
        self.assertEqual([entry[2] for entry in runtime.nodes()],
                         [True, True, False, False, True, False, False, True, True])
        self.assertEqual([runtime.is_disposed(number) for number in range(9)],
                         [False, False, True, True, False, True, True, False, False])


class DisposingTest(DisposalTest):
    def test_descendants_the_latest_made_first_whoever_owns_them(self):
        outer = self.runtime.scope(0)
        one = self.runtime.scope(outer)
        two = self.runtime.scope(outer)
        three = self.runtime.scope(one)
        beside = self.runtime.scope(0)
        four = self.runtime.boundary(two)
        for number in (outer, one, two, three, beside, four):
            self.runtime.cleanup(number, number)
        self.runtime.cleanup(two, "second")
        self.runtime.dispose(outer)
        self.assertEqual(self.runtime.delivered(), [four, three, "second", two, one, outer])
        self.assertEqual(self.active(), [0, self.s, beside])

    def test_a_second_disposal_changes_nothing(self):
        scope = self.runtime.scope(0)
        self.runtime.cleanup(scope, 1)
        self.runtime.dispose(scope)
        self.runtime.dispose(scope)
        self.assertEqual(self.runtime.delivered(), [1])
        self.assertIs(self.runtime.undo(), True)
        self.assertIs(self.runtime.is_disposed(scope), True)
        self.assertIs(self.runtime.undo(), True)
        self.assertIs(self.runtime.is_disposed(scope), False)

    def test_the_root_stays(self):
        self.fails("root stays", "dispose", 0)
        self.effect(0, *attempt([("dispose", "z")]), z=0)
        self.assertEqual(self.runtime.delivered(), ["root stays"])

    def test_nothing_can_be_made_in_what_is_disposed(self):
        scope = self.runtime.scope(0)
        self.runtime.dispose(scope)
        for method, arguments in (("signal", (1,)), ("store", ([],)), ("scope", ()), ("boundary", ()),
                                  ("computed", ([], {})), ("effect", ([], {})), ("resource", ([], {})),
                                  ("keyed", (self.runtime.store(0, []), "k", [], {})),
                                  ("emit", (1,)), ("cleanup", (1,))):
            self.fails("disposed", method, scope, *arguments)

    def test_writes_to_what_is_disposed(self):
        scope = self.runtime.scope(0)
        signal, store = self.runtime.signal(scope, 1), self.runtime.store(scope, [])
        boundary = self.runtime.boundary(scope)
        self.runtime.dispose(scope)
        self.fails("disposed", "write", signal, 1)
        self.fails("disposed", "put", store, "a", 1)
        self.fails("disposed", "remove", store, "a")
        self.fails("disposed", "reset", boundary)

    def test_readings_of_what_is_disposed(self):
        scope = self.runtime.scope(0)
        number = self.runtime.signal(scope, 1)
        store = self.runtime.store(scope, [("a", 1)])
        resource = self.runtime.resource(scope, [("return", V)], {})
        self.runtime.dispose(scope)
        for source in (("value", number), ("value", resource), ("state", resource), ("get", store, "a"),
                       ("get", store, "b"), ("has", store, "a"), ("keys", store)):
            self.assertEqual(self.runtime.reading(source), ("error", "disposed"))
        for method, arguments in (("read", (number,)), ("read", (resource,)), ("state", (resource,)),
                                  ("get", (store, "a")), ("has", (store, "a")), ("keys", (store,))):
            self.fails("disposed", method, *arguments)


class WithinEffectsTest(DisposalTest):
    def test_running(self):
        scope = self.runtime.scope(self.runtime.boundary(0))
        number = len(self.runtime.nodes())
        owners = [scope, scope - 1]
        for owner in owners:
            self.effect(scope, *attempt([("dispose", "z")]), z=owner)
        self.assertEqual(self.runtime.delivered(), ["running", "running"])
        self.assertEqual(self.active(), [0, self.s, scope - 1, scope, number, number + 1])

    def test_running_itself(self):
        scope = self.runtime.scope(0)
        outer = self.effect(scope, ("let", "n", V), ("effect", "inner", [("emit", read("s"))] + attempt([
            ("dispose", "e")])), e=scope)
        self.assertEqual(self.runtime.delivered(), [0, "running"])
        # An effect learns its own number only from the outside, by a signal's turn: here by an inner effect.
        inner = self.effect(scope, ("effect", "x", [("emit", read("s"))]), ("dispose", "x"))
        self.assertEqual(self.runtime.nodes()[inner + 1], ("effect", inner, False))
        self.assertIs(self.runtime.is_disposed(outer), False)

    def test_running_through_an_effect_that_owns_it(self):
        number = len(self.runtime.nodes())
        self.runtime.transaction(0, [("effect", "e", [("effect", "i", [])]), ("scope", "z")], {})
        self.assertEqual(self.runtime.nodes()[number:], [
            ("effect", 0, True), ("scope", 0, True), ("effect", number, True)])
        # Made in a scope that an effect owns, an effect can name the effect itself.
        owner = self.effect(0, ("scope", "z"))
        self.effect(owner + 1, *attempt([("dispose", "z")]), z=owner)
        self.assertEqual(self.runtime.delivered(), ["running"])

    def test_running_ahead_of_nothing_else(self):
        scope = self.runtime.scope(0)
        self.effect(scope, *attempt([("dispose", "z")]), z=self.s - 1)
        self.assertEqual(self.runtime.delivered(), ["root stays"])

    def test_what_an_effect_disposes_of_has_no_turn(self):
        victim = len(self.runtime.nodes()) + 1
        self.effect(0, when(2, ("dispose", "z")), z=0)
        later = self.effect(0, emit(read("s")))
        self.assertEqual(later, victim)
        killer = [when(3, ("dispose", "z"))]
        early = self.effect(0, *killer, z=later)
        self.runtime.write(self.s, 3)
        # The victim has the lower number: it has had its turn.
        self.assertEqual(self.runtime.delivered(), [0, 3])
        self.assertIs(self.runtime.is_disposed(later), True)
        self.assertIs(self.runtime.is_disposed(early), False)
        self.runtime.write(self.s, 4)
        self.assertEqual(self.runtime.delivered(), [0, 3])

    def test_disposing_of_what_comes_later_in_the_pass(self):
        scope = self.runtime.scope(0)
        killer = self.effect(0, when(3, ("dispose", "z")), z=scope)
        self.effect(scope, emit(read("s")), ("cleanup", value("bye")))
        self.runtime.write(self.s, 3)
        self.assertEqual(self.runtime.delivered(), [0, "bye"])
        self.assertEqual([run[0] for run in self.runtime.runs()], [killer])

    def test_writes_of_what_is_disposed_of_later_in_the_pass_are_made(self):
        scope = self.runtime.scope(0)
        t = self.runtime.signal(0, 0)
        self.effect(scope, when(3, ("write", "t", value("written"))), t=t)
        self.effect(0, when(3, ("dispose", "z")), z=scope)
        self.runtime.write(self.s, 3)
        self.assertEqual(self.runtime.read(t), "written")

    def test_writes_to_what_is_disposed_of_earlier_in_the_pass(self):
        scope = self.runtime.scope(0)
        t = self.runtime.signal(scope, 0)
        self.effect(0, when(3, ("dispose", "z")), z=scope)
        self.effect(0, when(3, *attempt([("write", "t", V)])), t=t)
        self.runtime.write(self.s, 3)
        self.assertEqual(self.runtime.delivered(), ["disposed"])

    def test_writes_to_what_is_disposed_of_later_in_the_pass_are_dropped(self):
        scope = self.runtime.scope(0)
        t, p = self.runtime.signal(scope, 0), self.runtime.store(scope, [])
        b, u = self.runtime.boundary(scope), self.runtime.signal(0, 0)
        self.effect(0, when(3, ("write", "t", V), ("put", "p", value("a"), V), ("remove", "p", value("a")),
                            ("reset", "b"), ("write", "u", V)), t=t, p=p, b=b, u=u)
        self.effect(0, when(3, ("dispose", "z")), z=scope)
        self.runtime.write(self.s, 3)
        self.assertEqual(self.runtime.read(u), 1)
        self.assertEqual(self.runtime.reading(("value", t)), ("error", "disposed"))

    def test_disposed_nodes_are_seen_at_once(self):
        scope = self.runtime.scope(0)
        t = self.runtime.signal(scope, 5)
        c = self.runtime.computed(0, [("try", [("return", read("t"))], "m", [("return", var("m"))])], names(t=t))
        early = self.effect(0, emit(("join", value("a"), read("c"))), c=c)
        self.effect(0, when(3, ("dispose", "z")), z=scope)
        late = self.effect(0, emit(("join", value("b"), read("c"))), c=c)
        self.runtime.write(self.s, 3)
        self.assertEqual(self.runtime.delivered(), ["a5", "b5", "bdisposed", "adisposed"])
        self.assertEqual([run[0] for run in self.runtime.runs()][-1], early)
        self.assertIn(late, [run[0] for run in self.runtime.runs()])

    def test_disposing_of_a_resource_and_a_keyed_effect(self):
        store = self.runtime.store(0, [("a", 1)])
        keyed = self.runtime.keyed(0, store, "k", [("cleanup", var("k"))], {})
        resource = self.runtime.resource(0, [("return", V)], {})
        self.effect(0, when(3, ("dispose", "r"), ("dispose", "k"), ("dispose", "r")), r=resource, k=keyed)
        self.runtime.write(self.s, 3)
        self.assertEqual(self.runtime.delivered(), ["a"])
        self.assertTrue(self.runtime.is_disposed(resource) and self.runtime.is_disposed(keyed))
        self.assertTrue(self.runtime.is_disposed(keyed + 1))

    def test_emits_and_cleanups_in_their_order(self):
        scope = self.runtime.scope(0)
        self.runtime.cleanup(scope, "scope")
        self.effect(scope, ("cleanup", value("inner")))
        self.effect(0, when(3, emit("ahead"), ("dispose", "z"), emit("behind")), z=scope)
        self.runtime.write(self.s, 3)
        self.assertEqual(self.runtime.delivered(), ["ahead", "inner", "scope", "behind"])


if __name__ == "__main__":
    unittest.main()
