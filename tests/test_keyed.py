"""Points [27] and [28]: keyed effects."""

import unittest

from ripplewell.runtimes import Runtime

from helping import Both, CallTest, check_what_holds, emit, fail, give, names, node, read, value, var

FIRST = ("first",)


def keys_changed(store, old, new):
    return ("changed", ("keys", store), ("keys", tuple(old)), ("keys", tuple(new)))


class KeyedTest(CallTest):
    def setUp(self):
        self.runtime = Both()
        self.store = self.runtime.store(0, [("a", 1), ("b", 2)])
        self.s = self.runtime.signal(0, 0)

    def keyed(self, *program, owner=0, name="k", **numbers):
        return self.runtime.keyed(owner, self.store, name, list(program), names(s=self.s, p=self.store, **numbers))

    def change(self, *program):
        self.runtime.transaction(0, list(program), names(p=self.store, s=self.s))

    def members(self, number):
        return [at for at, entry in enumerate(self.runtime.nodes()) if entry == ("effect", number, True)]

    def tearDown(self):
        check_what_holds(self, self.runtime.kept)


PROGRAM = [("emit", ("join", var("k"), ("get", "p", var("k")))), ("cleanup", ("join", value("bye "), var("k")))]


class KeysTest(KeyedTest):
    def test_an_effect_for_each_key_in_the_order_of_the_keys(self):
        number = self.keyed(*PROGRAM)
        self.assertEqual(self.runtime.runs(), [(number, FIRST), (number + 1, FIRST), (number + 2, FIRST)])
        self.assertEqual(self.runtime.nodes()[number:], [
            ("keyed", 0, True), ("effect", number, True), ("effect", number, True)])
        self.assertEqual(self.runtime.delivered(), ["a1", "b2"])
        self.assertEqual(self.runtime.dependencies(number), [(("keys", self.store), ("keys", ("a", "b")))])
        self.assertEqual(self.runtime.dependencies(number + 2), [(("get", self.store, "b"), ("value", 2))])

    def test_no_keys(self):
        self.store = self.runtime.store(0, [])
        number = self.keyed(*PROGRAM)
        self.assertEqual(self.runtime.runs(), [(number, FIRST)])
        self.assertEqual(self.members(number), [])

    def test_a_value_that_changes_is_no_change_of_the_keys(self):
        number = self.keyed(*PROGRAM)
        self.runtime.put(self.store, "b", 5)
        self.assertEqual(self.runtime.runs(), [
            (number + 2, ("changed", ("get", self.store, "b"), ("value", 2), ("value", 5)))])
        self.assertEqual(self.runtime.delivered(), ["a1", "b2", "bye b", "b5"])

    def test_a_key_that_comes(self):
        number = self.keyed(*PROGRAM)
        self.runtime.put(self.store, "c", 3)
        self.assertEqual(self.runtime.runs(), [(number, keys_changed(self.store, "ab", "abc")), (number + 3, FIRST)])
        self.assertEqual(self.runtime.delivered(), ["a1", "b2", "c3"])
        self.assertEqual(self.members(number), [number + 1, number + 2, number + 3])

    def test_a_key_that_goes(self):
        number = self.keyed(*PROGRAM)
        self.runtime.remove(self.store, "a")
        # The effect of a had no turn: its keyed effect has a lower number.
        self.assertEqual(self.runtime.runs(), [(number, keys_changed(self.store, "ab", "b"))])
        self.assertEqual(self.runtime.delivered(), ["a1", "b2", "bye a"])
        self.assertEqual(self.members(number), [number + 2])

    def test_a_key_that_goes_and_comes_again(self):
        number = self.keyed(*PROGRAM)
        self.runtime.remove(self.store, "a")
        self.runtime.put(self.store, "a", 7)
        self.assertEqual(self.members(number), [number + 2, number + 3])
        self.assertEqual(self.runtime.delivered(), ["a1", "b2", "bye a", "a7"])

    def test_keys_in_another_order(self):
        number = self.keyed(*PROGRAM)
        self.change(("remove", "p", value("a")), ("put", "p", value("a"), value(1)))
        self.assertEqual(self.runtime.runs(), [(number, keys_changed(self.store, "ab", "ba"))])
        self.assertEqual(self.members(number), [number + 1, number + 2])
        self.assertEqual(self.runtime.delivered(), ["a1", "b2"])
        self.assertEqual(self.runtime.dependencies(number), [(("keys", self.store), ("keys", ("b", "a")))])

    def test_keys_that_are_the_same_again(self):
        self.keyed(*PROGRAM)
        self.change(("remove", "p", value("b")), ("put", "p", value("b"), value(2)))
        self.assertEqual(self.runtime.runs(), [])
        self.change(("put", "p", value("c"), value(2)), ("remove", "p", value("c")))
        self.assertEqual(self.runtime.runs(), [])

    def test_gone_ones_first_the_latest_made_first_then_new_ones(self):
        self.runtime.put(self.store, "c", 3)
        number = self.keyed(*PROGRAM)
        self.change(*[("remove", "p", value(key)) for key in "abc"],
                    *[("put", "p", value(key), value(0)) for key in "zby"])
        self.assertEqual(self.runtime.delivered(), ["a1", "b2", "c3", "bye c", "bye a", "bye b", "b0", "z0", "y0"])
        self.assertEqual([run[0] for run in self.runtime.runs()], [number, number + 2, number + 4, number + 5])
        self.assertEqual(self.members(number), [number + 2, number + 4, number + 5])

    def test_gone_ones_with_their_descendants(self):
        number = self.keyed(("cleanup", var("k")), ("scope", "z"))
        scopes = [at for at, entry in enumerate(self.runtime.nodes()) if entry[0] == "scope" and at > number]
        for scope in scopes:
            self.runtime.cleanup(self.runtime.scope(scope), f"inner {scope}")
        self.change(("remove", "p", value("a")), ("remove", "p", value("b")))
        # One effect after another, each with what it owns, and not simply the latest node first.
        self.assertEqual(self.runtime.delivered(), [f"inner {scopes[1]}", "b", f"inner {scopes[0]}", "a"])
        self.assertEqual(self.members(number), [])

    def test_effects_of_keys_that_stay_are_not_touched(self):
        number = self.keyed(("emit", ("join", var("k"), ("size", "p"))))
        self.runtime.put(self.store, "c", 3)
        self.assertEqual([run[0] for run in self.runtime.runs()], [number, number + 1, number + 2, number + 3])
        number = self.keyed(emit("own"), ("scope", "x"))
        before = self.runtime.nodes()
        self.runtime.remove(self.store, "c")
        after = self.runtime.nodes()
        self.assertEqual(self.members(number), [number + 1, number + 2])
        self.assertEqual(len(before), len(after))


class ProgramsTest(KeyedTest):
    def test_the_setting_and_the_key(self):
        setting = {"x": 5, "k": "old", "s": node(self.s)}
        self.runtime.keyed(0, self.store, "k", [("emit", ("join", var("k"), ("add", var("x"), read("s"))))], setting)
        self.assertEqual(self.runtime.delivered(), ["a5", "b5"])
        self.runtime.write(self.s, 1)
        self.assertEqual(self.runtime.delivered(), ["a5", "b5", "a6", "b6"])

    def test_the_name_can_hide_a_node(self):
        self.keyed(("emit", var("s")), name="s")
        self.assertEqual(self.runtime.delivered(), ["a", "b"])

    def test_made_by_a_program(self):
        program = [("let", "x", value("!")),
                   ("keyed", "y", "p", "z", [("emit", ("join", var("z"), ("join", var("x"), read("s"))))]),
                   ("let", "x", value("?"))]
        self.change(*program)
        number = len(self.runtime.nodes()) - 3
        self.assertEqual(self.runtime.nodes()[number:], [
            ("keyed", 0, True), ("effect", number, True), ("effect", number, True)])
        self.assertEqual(self.runtime.delivered(), ["a!0", "b!0"])

    def test_made_by_an_effect(self):
        owner = self.runtime.effect(0, [emit(read("s")), ("keyed", "y", "p", "k", PROGRAM)],
                                    names(s=self.s, p=self.store))
        self.assertEqual(self.runtime.delivered(), [0, "a1", "b2"])
        self.runtime.put(self.store, "c", 3)
        self.runtime.write(self.s, 1)
        self.assertEqual(self.runtime.delivered(), [0, "a1", "b2", "c3", "bye c", "bye b", "bye a", 1, "a1", "b2", "c3"])
        self.assertIs(self.runtime.is_disposed(owner), False)

    def test_effects_can_make_nodes_and_write(self):
        number = self.keyed(("signal", "y", value(1)), ("computed", "c", [give(("get", "p", var("k")))]),
                            ("emit", read("c")), ("write", "s", read("c")))
        self.assertEqual(self.runtime.delivered(), [1, 2])
        self.assertEqual(self.runtime.read(self.s), 2)
        self.runtime.dispose(number)
        self.assertEqual(len([1 for entry in self.runtime.nodes() if entry[2]]), 3)

    def test_an_effect_that_changes_its_store(self):
        number = self.keyed(("if", ("equal", var("k"), value("a")), [("put", "p", value("z"), value(9))], []),
                            ("emit", var("k")))
        self.assertEqual(self.runtime.delivered(), ["a", "b", "z"])
        self.assertEqual(self.runtime.runs(), [
            (number, FIRST), (number + 1, FIRST), (number + 2, FIRST),
            (number, keys_changed(self.store, "ab", "abz")), (number + 3, FIRST)])

    def test_an_effect_that_removes_its_own_key(self):
        number = self.keyed(("emit", var("k")), ("cleanup", ("join", value("bye "), var("k"))),
                            ("if", ("equal", var("k"), value("a")), [("remove", "p", var("k"))], []))
        self.assertEqual(self.runtime.delivered(), ["a", "b", "bye a"])
        self.assertEqual(self.members(number), [number + 2])


class DisposingTest(KeyedTest):
    def test_disposing_of_the_keyed_effect(self):
        number = self.keyed(*PROGRAM)
        self.runtime.dispose(number)
        self.assertEqual(self.runtime.delivered(), ["a1", "b2", "bye b", "bye a"])
        self.assertEqual(self.runtime.nodes()[number:], [
            ("keyed", 0, False), ("effect", number, False), ("effect", number, False)])
        self.runtime.put(self.store, "c", 1)
        self.assertEqual(self.runtime.runs(), [])

    def test_an_effect_that_was_disposed_of_is_made_again_at_the_next_execution(self):
        number = self.keyed(*PROGRAM)
        self.runtime.dispose(number + 1)
        self.assertEqual(self.members(number), [number + 2])
        self.runtime.put(self.store, "a", 5)
        self.assertEqual(self.members(number), [number + 2])
        self.assertEqual(self.runtime.runs(), [])
        self.runtime.put(self.store, "c", 3)
        self.assertEqual(self.members(number), [number + 2, number + 3, number + 4])
        self.assertEqual(self.runtime.delivered(), ["a1", "b2", "bye a", "a5", "c3"])

    def test_an_effect_that_was_disposed_of_and_whose_key_is_gone(self):
        number = self.keyed(*PROGRAM)
        self.runtime.dispose(number + 1)
        self.runtime.remove(self.store, "a")
        self.assertEqual(self.runtime.delivered(), ["a1", "b2", "bye a"])
        self.assertEqual(self.members(number), [number + 2])

    def test_a_member_cannot_dispose_of_its_keyed_effect(self):
        self.fails("no such node", "effect", 99, [], {})
        scope = self.runtime.scope(0)
        self.runtime.keyed(scope, self.store, "k", [("try", [("dispose", "z")], "m", [emit(var("m"))])],
                           names(z=scope))
        self.assertEqual(self.runtime.delivered(), ["running", "running"])

    def test_a_member_can_dispose_of_another(self):
        number = self.keyed(emit(read("s")))
        self.runtime.effect(0, [("if", ("equal", read("s"), value(3)), [("dispose", "m")], [])],
                            names(s=self.s, m=number + 1))
        self.runtime.write(self.s, 3)
        self.assertEqual(self.members(number), [number + 2])


class FailingTest(KeyedTest):
    def disposable_store(self):
        self.scope = self.runtime.scope(0)
        self.store = self.runtime.store(self.scope, [("a", 1), ("b", 2)])

    def test_a_store_that_is_disposed_of(self):
        self.disposable_store()
        boundary = self.runtime.boundary(0)
        number = self.keyed(*PROGRAM[1:], owner=boundary)
        self.runtime.dispose(self.scope)
        self.assertEqual(self.runtime.runs(), [
            (number, ("changed", ("keys", self.store), ("keys", ("a", "b")), ("error", "disposed")))])
        self.assertEqual(self.runtime.read(boundary), "disposed")
        self.assertEqual(self.runtime.delivered(), ["bye b", "bye a"])
        self.assertEqual(self.runtime.dependencies(number), [(("keys", self.store), ("keys", ("a", "b")))])
        self.assertIs(self.runtime.is_disposed(number), True)

    def test_without_a_boundary(self):
        self.disposable_store()
        number = self.keyed(*PROGRAM)
        self.fails("disposed", "dispose", self.scope)
        self.assertEqual(self.runtime.runs(), [
            (number, ("changed", ("keys", self.store), ("keys", ("a", "b")), ("error", "disposed")))])

    def test_making_one_for_a_disposed_store(self):
        self.disposable_store()
        self.runtime.dispose(self.scope)
        self.fails("disposed", "keyed", 0, self.store, "k", [], {})
        self.assertEqual(self.runtime.runs(), [(len(self.runtime.nodes()), FIRST)])
        boundary = self.runtime.boundary(0)
        number = self.keyed(owner=boundary)
        self.assertEqual(self.runtime.nodes()[number], ("keyed", boundary, False))
        self.assertEqual(self.runtime.read(boundary), "disposed")
        self.assertIs(self.runtime.dependencies(number), None)
        self.runtime.reset(boundary)
        self.change_in(boundary)

    def change_in(self, boundary):
        self.runtime.transaction(boundary, [("keyed", "y", "p", "k", []), emit("made")], names(p=self.store))
        self.assertEqual(self.runtime.delivered(), ["made"])
        self.assertEqual(self.runtime.read(boundary), "disposed")

    def test_too_many_nodes(self):
        while len([1 for entry in self.runtime.nodes() if entry[2]]) < 21:
            self.runtime.scope(0)
        boundary = self.runtime.boundary(0)
        number = self.keyed(*PROGRAM, owner=boundary)
        # One of two effects could have been made: it is gone, and its number is used up.
        self.assertEqual(self.runtime.runs(), [(number, FIRST)])
        self.assertEqual(self.runtime.nodes()[number:], [("keyed", boundary, False), ("effect", number, False)])
        self.assertEqual(self.runtime.read(boundary), "too many nodes")
        self.assertEqual(self.runtime.delivered(), [])
        self.fails("too many nodes", "keyed", 0, self.store, "k", [], {})

    def test_what_it_disposed_of_is_active_again(self):
        number = self.keyed(*PROGRAM)
        while len([1 for entry in self.runtime.nodes() if entry[2]]) < 24:
            self.runtime.scope(0)
        program = [("remove", "p", value("a"))] + [("put", "p", value(key), value(0)) for key in "xy"]
        self.fails("too many nodes", "transaction", 0, program, names(p=self.store))
        self.assertEqual(self.members(number), [number + 1, number + 2])
        self.runtime.remove(self.store, "a")
        self.assertEqual(self.members(number), [number + 2])

    def test_an_error_of_one_of_its_effects(self):
        boundary = self.runtime.boundary(0)
        number = self.keyed(("cleanup", var("k")), ("if", ("equal", ("get", "p", var("k")), value("bad")),
                                                    [fail("member")], []), owner=boundary)
        self.runtime.put(self.store, "a", "bad")
        self.assertEqual(self.runtime.read(boundary), "error member")
        self.assertEqual(self.runtime.nodes()[number:], [
            ("keyed", boundary, False), ("effect", number, False), ("effect", number, False)])
        self.assertEqual(self.runtime.delivered(), ["b", "a"])

    def test_an_error_without_a_boundary(self):
        self.keyed(("if", ("equal", var("k"), value("c")), [fail("member")], []))
        self.fails("error member", "put", self.store, "c", 1)


class KeptTest(unittest.TestCase):
    def test_keyed_effects_and_computed_nodes(self):
        runtime = Runtime()
        store = runtime.store(0, [("a", 1)])
        double = runtime.computed(0, [give(("add", ("get", "p", value("a")), ("get", "p", value("a"))))], names(p=store))
        number = runtime.keyed(0, store, "k", [emit(read("d"))], names(d=double))
        self.assertEqual(runtime.runs(), [(number, FIRST), (number + 1, FIRST), (double, FIRST)])
        runtime.put(store, "b", 1)
        self.assertEqual(runtime.runs(), [(number, keys_changed(store, "a", "ab")), (number + 2, FIRST)])
        runtime.put(store, "a", 2)
        self.assertEqual(runtime.runs(), [
            (double, ("changed", ("get", store, "a"), ("value", 1), ("value", 2))),
            (number + 1, ("changed", ("value", double), ("value", 2), ("value", 4))),
            (number + 2, ("changed", ("value", double), ("value", 2), ("value", 4)))])


if __name__ == "__main__":
    unittest.main()
