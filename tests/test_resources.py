"""Points [20], [33] and [34]: resources, their requests, and responses."""

import unittest

from ripplewell.runtimes import Runtime

from helping import Both, CallTest, check_what_holds, emit, everything, fail, give, names, read, value, var

FIRST = ("first",)
V = value(1)


class ResourceTest(CallTest):
    def setUp(self):
        self.runtime = Both()
        self.s = self.runtime.signal(0, None)

    def resource(self, *program, owner=0, **numbers):
        return self.runtime.resource(owner, list(program or [give(read("s"))]), names(s=self.s, **numbers))

    def stands(self, number, state, reading):
        self.assertEqual(self.runtime.state(number), state)
        self.assertEqual(self.runtime.reading(("state", number)), ("value", state))
        self.assertEqual(repr(self.runtime.reading(("value", number))), repr(reading))

    def tearDown(self):
        check_what_holds(self, self.runtime.kept)


class StatesTest(ResourceTest):
    def test_idle_pending_ready(self):
        number = self.resource()
        self.stands(number, "idle", ("value", None))
        self.assertEqual(self.runtime.requests(), [])
        self.runtime.write(self.s, 5)
        self.stands(number, "pending", ("value", None))
        self.assertEqual(self.runtime.requests(), [5])
        self.assertIs(self.runtime.respond(0, "answer"), True)
        self.stands(number, "ready", ("value", "answer"))
        self.assertEqual(self.runtime.requests(), [5])
        self.assertIs(self.runtime.respond(0, "again"), False)
        self.stands(number, "ready", ("value", "answer"))

    def test_a_rejection(self):
        number = self.resource(give("key"))
        self.assertIs(self.runtime.reject(0, "no such thing"), True)
        self.stands(number, "failed", ("error", "no such thing"))
        self.fails("no such thing", "read", number)
        self.assertEqual(self.runtime.requests(), ["key"])
        self.assertIs(self.runtime.respond(0, 1), False)
        self.assertIs(self.runtime.reject(0, "again"), False)
        self.stands(number, "failed", ("error", "no such thing"))

    def test_a_long_message(self):
        number = self.resource(give("key"))
        self.assertIs(self.runtime.reject(0, "x" * 40), True)
        self.stands(number, "failed", ("error", "x" * 40))

    def test_an_empty_message(self):
        number = self.resource(give("key"))
        self.runtime.reject(0, "")
        self.stands(number, "failed", ("error", ""))

    def test_a_key_that_is_an_error(self):
        number = self.resource(("if", read("s"), [fail("x")], []), give(read("s")))
        self.stands(number, "idle", ("value", None))
        self.runtime.write(self.s, 1)
        self.stands(number, "failed", ("error", "error x"))
        self.assertEqual(self.runtime.requests(), [])
        self.runtime.write(self.s, 0)
        self.stands(number, "pending", ("value", None))
        self.assertEqual(self.runtime.requests(), [0])

    def test_every_key_but_none(self):
        for thing in (False, 0, "", None, True, 1, "a"):
            self.resource(give(thing))
        self.assertEqual(repr(self.runtime.requests()), "[False, 0, '', True, 1, 'a']")

    def test_values_of_answers(self):
        number = self.resource(give("key"))
        for thing in (None, False, 0, "", "a"):
            self.runtime.respond(0, thing)
            self.stands(number, "ready", ("value", thing))
            self.runtime.undo()

    def test_a_new_key(self):
        number = self.resource()
        self.runtime.write(self.s, "a")
        self.runtime.respond(0, "answer a")
        self.runtime.write(self.s, "b")
        self.stands(number, "pending", ("value", None))
        self.assertEqual(self.runtime.requests(), ["a", "b"])
        self.assertIs(self.runtime.respond(1, "answer b"), True)
        self.stands(number, "ready", ("value", "answer b"))
        self.runtime.write(self.s, "a")
        self.stands(number, "pending", ("value", None))
        self.assertEqual(self.runtime.requests(), ["a", "b", "a"])

    def test_true_and_1_are_other_keys(self):
        number = self.resource()
        self.runtime.write(self.s, 1)
        self.runtime.respond(0, "one")
        self.runtime.write(self.s, True)
        self.stands(number, "pending", ("value", None))
        self.assertEqual(repr(self.runtime.requests()), "[1, True]")

    def test_no_key_for_a_while(self):
        number = self.resource()
        self.runtime.write(self.s, "a")
        self.runtime.respond(0, "answer")
        self.runtime.write(self.s, None)
        self.stands(number, "idle", ("value", None))
        self.runtime.write(self.s, "a")
        self.stands(number, "ready", ("value", "answer"))
        self.assertEqual(self.runtime.requests(), ["a"])

    def test_the_state_within_a_transaction(self):
        number = self.resource()
        self.runtime.write(self.s, "a")
        self.runtime.respond(0, "answer")
        states = [emit(("state", "r")), emit(read("r"))]
        program = states + [("write", "s", value("b"))] + states + [("write", "s", value(None))] + states + [
            ("write", "s", value("a"))] + states
        self.runtime.transaction(0, program, names(s=self.s, r=number))
        self.assertEqual(self.runtime.delivered(),
                         ["ready", "answer", "pending", None, "idle", None, "ready", "answer"])
        self.assertEqual(self.runtime.requests(), ["a"])

    def test_reading_a_rejected_one_raises_in_programs(self):
        number = self.resource(give("key"))
        self.runtime.reject(0, "no")
        self.fails("no", "transaction", 0, [emit(read("r"))], names(r=number))
        self.assertEqual(self.runtime.transaction(0, [give(("state", "r"))], names(r=number)), "failed")

    def test_a_resource_that_reads_another(self):
        first = self.resource()
        second = self.runtime.resource(0, [("if", ("equal", ("state", "r"), value("ready")), [give(read("r"))], [])],
                                       names(r=first))
        self.stands(second, "idle", ("value", None))
        self.runtime.write(self.s, "user")
        self.assertEqual(self.runtime.requests(), ["user"])
        self.runtime.respond(0, "id")
        self.assertEqual(self.runtime.requests(), ["user", "id"])
        self.runtime.respond(1, "profile")
        self.stands(second, "ready", ("value", "profile"))
        self.runtime.write(self.s, "other")
        self.stands(second, "idle", ("value", None))


class RequestsTest(ResourceTest):
    def test_in_the_order_of_the_numbers_of_the_nodes(self):
        self.resource(give(("join", value("first "), read("s"))))
        self.resource(give(("join", value("second "), read("s"))))
        self.runtime.write(self.s, 1)
        self.assertEqual(self.runtime.requests(), ["first none", "second none", "first 1", "second 1"])

    def test_one_for_a_transaction(self):
        self.resource()
        self.runtime.transaction(0, [("write", "s", value("a")), ("write", "s", value("b"))], names(s=self.s))
        self.assertEqual(self.runtime.requests(), ["b"])

    def test_behind_the_last_pass(self):
        self.resource()
        self.runtime.effect(0, [("if", ("equal", read("s"), value("a")), [("write", "s", value("b"))], [])],
                            names(s=self.s))
        self.runtime.write(self.s, "a")
        self.assertEqual(self.runtime.requests(), ["b"])

    def test_disposed_resources_make_none(self):
        number = self.resource()
        self.runtime.transaction(0, [("write", "s", value("a")), ("dispose", "r")], names(s=self.s, r=number))
        self.assertEqual(self.runtime.requests(), [])
        self.fails("disposed", "state", number)
        self.fails("disposed", "read", number)

    def test_a_transaction_that_fails_makes_none(self):
        self.resource()
        self.runtime.effect(0, [("if", ("equal", read("s"), value("b")), [fail("x")], [])], names(s=self.s))
        self.fails("error x", "write", self.s, "b")
        self.assertEqual(self.runtime.requests(), [])

    def test_every_commit_looks_at_them(self):
        self.resource()
        self.runtime.write(self.s, "a")
        self.runtime.emit(0, 1)
        self.runtime.scope(0)
        self.assertEqual(self.runtime.requests(), ["a"])


class ResponsesTest(ResourceTest):
    def setUp(self):
        ResourceTest.setUp(self)
        self.runtime.write(self.s, "a")
        self.r = self.resource()

    def test_elder_requests_concern_none(self):
        self.runtime.write(self.s, "b")
        before = everything(self.runtime.kept)
        self.assertIs(self.runtime.respond(0, "late"), False)
        self.assertIs(self.runtime.reject(0, "late"), False)
        self.assertEqual(everything(self.runtime.kept), before)
        self.stands(self.r, "pending", ("value", None))
        self.assertIs(self.runtime.respond(1, "right"), True)
        self.stands(self.r, "ready", ("value", "right"))

    def test_a_response_that_concerns_none_is_no_state(self):
        self.runtime.write(self.s, "b")
        self.runtime.respond(0, "late")
        self.runtime.undo()
        self.assertEqual(self.runtime.read(self.s), "a")

    def test_a_request_whose_key_came_back(self):
        self.runtime.write(self.s, "b")
        self.runtime.write(self.s, "a")
        self.assertEqual(self.runtime.requests(), ["a", "b", "a"])
        self.assertIs(self.runtime.respond(0, "late"), False)
        self.assertIs(self.runtime.respond(1, "late"), False)
        self.assertIs(self.runtime.respond(2, "right"), True)

    def test_a_disposed_resource(self):
        self.runtime.dispose(self.r)
        self.assertIs(self.runtime.respond(0, "late"), False)
        self.assertIs(self.runtime.reject(0, "late"), False)

    def test_a_resource_without_a_key_is_concerned(self):
        self.runtime.write(self.s, None)
        self.assertIs(self.runtime.respond(0, "early"), True)
        self.stands(self.r, "idle", ("value", None))
        self.runtime.write(self.s, "a")
        self.stands(self.r, "ready", ("value", "early"))

    def test_each_resource_has_its_own(self):
        other = self.resource()
        self.assertEqual(self.runtime.requests(), ["a", "a"])
        self.assertIs(self.runtime.respond(1, "second"), True)
        self.stands(self.r, "pending", ("value", None))
        self.stands(other, "ready", ("value", "second"))
        self.assertIs(self.runtime.respond(0, "first"), True)
        self.stands(self.r, "ready", ("value", "first"))

    def test_propagation_follows(self):
        effect = self.runtime.effect(0, [emit(("state", "r")), ("try", [emit(read("r"))], "m", [("emit", var("m"))])],
                                     names(r=self.r))
        self.assertEqual(self.runtime.delivered(), ["pending", None])
        self.runtime.respond(0, "answer")
        self.assertEqual(self.runtime.runs(), [
            (effect, ("changed", ("state", self.r), ("value", "pending"), ("value", "ready")))])
        self.assertEqual(self.runtime.delivered(), ["pending", None, "ready", "answer"])
        self.runtime.write(self.s, "b")
        self.assertEqual(self.runtime.delivered()[4:], ["pending", None])
        self.runtime.reject(1, "gone")
        self.assertEqual(self.runtime.delivered()[6:], ["failed", "gone"])

    def test_an_answer_of_none_changes_the_state_alone(self):
        effect = self.runtime.effect(0, [emit(read("r"))], names(r=self.r))
        self.runtime.respond(0, None)
        self.assertEqual(self.runtime.runs(), [])
        self.stands(self.r, "ready", ("value", None))
        self.assertIs(self.runtime.is_disposed(effect), False)

    def test_one_that_is_rolled_back(self):
        self.runtime.effect(0, [("if", ("equal", read("r"), value("bad")), [fail("x")], [])], names(r=self.r))
        self.fails("error x", "respond", 0, "bad")
        self.stands(self.r, "pending", ("value", None))
        self.fails("bad", "reject", 0, "bad")
        self.assertIs(self.runtime.respond(0, "good"), True)
        self.stands(self.r, "ready", ("value", "good"))

    def test_undo(self):
        self.runtime.respond(0, "answer")
        self.runtime.undo()
        self.stands(self.r, "pending", ("value", None))
        self.assertIs(self.runtime.reject(0, "no"), True)
        self.runtime.undo()
        self.runtime.undo()
        self.assertEqual(self.runtime.requests(), [])
        self.fails("no such request", "respond", 0, 1)


class RunsTest(unittest.TestCase):
    def test_the_key_is_kept(self):
        runtime = Runtime()
        s = runtime.signal(0, "a")
        number = runtime.resource(0, [give(read("s"))], names(s=s))
        self.assertEqual(runtime.runs(), [(number, FIRST)])
        self.assertEqual(runtime.state(number), "pending")
        self.assertEqual(runtime.runs(), [])
        runtime.write(s, "b")
        self.assertEqual(runtime.runs(), [(number, ("changed", ("value", s), ("value", "a"), ("value", "b")))])
        runtime.respond(1, 5)
        self.assertEqual(runtime.runs(), [])
        self.assertEqual(runtime.read(number), 5)
        self.assertEqual(runtime.runs(), [])
        self.assertEqual(runtime.dependencies(number), [(("value", s), ("value", "b"))])

    def test_readers_of_the_value_and_of_the_state(self):
        runtime = Runtime()
        s = runtime.signal(0, "a")
        r = runtime.resource(0, [give(read("s"))], names(s=s))
        of_value = runtime.computed(0, [give(read("r"))], names(r=r))
        of_state = runtime.computed(0, [give(("state", "r"))], names(r=r))
        for number in (of_value, of_state):
            runtime.read(number)
        runtime.respond(0, None)
        runtime.read(of_value)
        self.assertEqual(runtime.runs(), [])
        self.assertEqual(runtime.read(of_state), "ready")
        self.assertEqual(runtime.runs(), [
            (of_state, ("changed", ("state", r), ("value", "pending"), ("value", "ready")))])
        runtime.write(s, "b")
        self.assertEqual(runtime.runs(), [(r, ("changed", ("value", s), ("value", "a"), ("value", "b")))])
        runtime.read(of_value)
        self.assertEqual(runtime.runs(), [])

    def test_requests_are_looked_at_behind_the_passes(self):
        runtime = Runtime()
        s = runtime.signal(0, "a")
        r = runtime.resource(0, [give(read("s"))], names(s=s))
        e = runtime.effect(0, [emit(read("s"))], names(s=s))
        runtime.write(s, "b")
        cause = ("changed", ("value", s), ("value", "a"), ("value", "b"))
        self.assertEqual(runtime.runs(), [(e, cause), (r, cause)])

    def test_a_resource_that_is_never_read_is_executed_all_the_same(self):
        runtime = Runtime()
        number = runtime.resource(0, [fail("x")], {})
        self.assertEqual(runtime.runs(), [(number, FIRST)])
        self.assertEqual(runtime.dependencies(number), [])


if __name__ == "__main__":
    unittest.main()
