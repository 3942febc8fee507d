"""Points [35] and [36]: subscriptions, pulls and their answers."""

import unittest

from ripplewell.errors import RippleError
from ripplewell.runtimes import Runtime

from helping import Both, check_what_holds, emit, fail, give, names, read, value

END = ("end",)


class SubscriptionTest(unittest.TestCase):
    def setUp(self):
        self.runtime = Both()
        self.scope = self.runtime.scope(0)
        self.s = self.runtime.signal(self.scope, 1)
        self.w = self.runtime.subscribe(self.s)

    def pulled(self, subscription=None):
        """Pull, and return the answer."""
        return self.runtime.answer(self.runtime.pull(self.w if subscription is None else subscription))

    def answers(self, *pulls):
        return [self.runtime.answer(pull) for pull in pulls]

    def tearDown(self):
        check_what_holds(self, self.runtime.kept)


class PullsTest(SubscriptionTest):
    def test_numbers(self):
        self.assertEqual(self.w, 0)
        self.assertEqual(self.runtime.subscribe(self.s), 1)
        self.assertEqual([self.runtime.pull(at) for at in (0, 1, 1, 0)], [0, 1, 2, 3])

    def test_the_first_pull_is_answered_at_once(self):
        self.runtime.write(self.s, 2)
        self.runtime.write(self.s, 3)
        self.assertEqual(self.pulled(), ("value", 3))

    def test_the_second_waits_for_another_reading(self):
        self.pulled()
        self.assertIs(self.pulled(), None)
        self.runtime.write(self.s, 1)
        self.runtime.emit(0, 5)
        self.assertIs(self.runtime.answer(1), None)
        self.runtime.write(self.s, 2)
        self.assertEqual(self.runtime.answer(1), ("value", 2))
        self.assertEqual(self.runtime.answer(0), ("value", 1))

    def test_what_differs_already_is_reported_at_once(self):
        self.pulled()
        self.runtime.write(self.s, 2)
        self.assertEqual(self.pulled(), ("value", 2))
        self.assertIs(self.pulled(), None)

    def test_what_is_between_is_not_reported(self):
        self.pulled()
        for thing in (2, 3, 1):
            self.runtime.write(self.s, thing)
        self.assertIs(self.pulled(), None)

    def test_true_and_1_differ(self):
        self.pulled()
        self.pulled()
        self.runtime.write(self.s, True)
        self.assertIs(self.runtime.answer(1)[1], True)

    def test_answers_in_order_one_for_each_transaction(self):
        pulls = [self.runtime.pull(self.w) for _ in range(4)]
        self.assertEqual(self.answers(*pulls), [("value", 1), None, None, None])
        self.runtime.write(self.s, 2)
        self.assertEqual(self.answers(*pulls), [("value", 1), ("value", 2), None, None])
        self.runtime.write(self.s, 2)
        self.runtime.transaction(0, [("write", "s", value(5)), ("write", "s", value(6))], names(s=self.s))
        self.assertEqual(self.answers(*pulls), [("value", 1), ("value", 2), ("value", 6), None])

    def test_a_pull_waits_behind_others(self):
        self.pulled()
        self.pulled()
        self.assertIs(self.pulled(), None)
        self.runtime.write(self.s, 2)
        self.assertEqual(self.answers(1, 2), [("value", 2), None])

    def test_a_failed_transaction_reports_nothing(self):
        self.pulled()
        self.pulled()
        with self.assertRaises(RippleError):
            self.runtime.transaction(0, [("write", "s", value(5)), fail("x")], names(s=self.s))
        self.assertIs(self.runtime.answer(1), None)

    def test_what_effects_write_is_reported(self):
        t = self.runtime.signal(0, 0)
        self.runtime.effect(0, [("write", "t", ("add", read("s"), value(100)))], names(s=self.s, t=t))
        watch = self.runtime.subscribe(t)
        self.assertEqual(self.pulled(watch), ("value", 101))
        self.assertIs(self.pulled(watch), None)
        self.runtime.write(self.s, 2)
        self.assertEqual(self.runtime.answer(1), ("value", 102))

    def test_computed_nodes_and_errors(self):
        number = self.runtime.computed(0, [("if", ("equal", read("s"), value(2)), [fail("two")], []), give(read("s"))],
                                       names(s=self.s))
        watch = self.runtime.subscribe(number)
        self.assertEqual(self.pulled(watch), ("value", 1))
        self.pulled(watch)
        self.pulled(watch)
        self.runtime.write(self.s, 2)
        self.assertEqual(self.answers(1, 2), [("error", "error two"), None])
        self.runtime.dispose(self.scope)
        self.assertEqual(self.runtime.answer(2), ("error", "disposed"))
        self.assertIs(self.pulled(watch), None)

    def test_boundaries(self):
        number = self.runtime.boundary(0)
        watch = self.runtime.subscribe(number)
        self.assertEqual(self.pulled(watch), ("value", None))
        self.pulled(watch)
        self.runtime.effect(number, [fail("x")], {})
        self.assertEqual(self.runtime.answer(1), ("value", "error x"))
        self.pulled(watch)
        self.runtime.reset(number)
        self.assertEqual(self.runtime.answer(2), ("value", None))

    def test_resources(self):
        number = self.runtime.resource(0, [give(read("s"))], names(s=self.s))
        watch = self.runtime.subscribe(number)
        self.assertEqual(self.pulled(watch), ("value", None))
        self.pulled(watch)
        self.runtime.respond(0, "a")
        self.assertEqual(self.runtime.answer(1), ("value", "a"))
        self.pulled(watch)
        self.runtime.write(self.s, 2)
        self.assertEqual(self.runtime.answer(2), ("value", None))
        self.pulled(watch)
        self.runtime.reject(1, "no")
        self.assertEqual(self.runtime.answer(3), ("error", "no"))

    def test_several_subscriptions(self):
        other = self.runtime.subscribe(self.s)
        for watch in (other, self.w):
            self.assertEqual(self.pulled(watch), ("value", 1))
            self.assertIs(self.pulled(watch), None)
        self.runtime.write(self.s, 2)
        self.assertEqual(self.answers(1, 3), [("value", 2), ("value", 2)])


class ClosingTest(SubscriptionTest):
    def test_closing_answers_all_that_wait(self):
        pulls = [self.runtime.pull(self.w) for _ in range(3)]
        self.assertIs(self.runtime.close(self.w), None)
        self.assertEqual(self.answers(*pulls), [("value", 1), END, END])
        self.assertEqual(self.pulled(), END)
        self.runtime.write(self.s, 2)
        self.assertEqual(self.pulled(), END)
        self.assertIs(self.runtime.close(self.w), None)
        self.assertEqual(self.pulled(), END)

    def test_closing_ahead_of_any_pull(self):
        self.runtime.close(self.w)
        self.assertEqual(self.pulled(), END)

    def test_closing_one_leaves_the_others(self):
        other = self.runtime.subscribe(self.s)
        self.runtime.close(self.w)
        self.assertEqual(self.pulled(other), ("value", 1))

    def test_a_disposed_node(self):
        self.pulled()
        pulls = [self.runtime.pull(self.w) for _ in range(2)]
        self.runtime.dispose(self.scope)
        self.assertEqual(self.answers(*pulls), [END, END])
        self.assertEqual(self.pulled(), END)

    def test_a_disposed_node_without_pulls(self):
        self.runtime.dispose(self.scope)
        self.assertEqual(self.pulled(), END)
        self.assertEqual(self.pulled(), END)

    def test_a_subscription_to_a_disposed_node(self):
        self.runtime.dispose(self.scope)
        watch = self.runtime.subscribe(self.s)
        self.assertEqual(self.pulled(watch), END)

    def test_a_node_that_is_active_again(self):
        self.pulled()
        self.pulled()
        self.runtime.dispose(self.scope)
        self.runtime.undo()
        self.assertIs(self.runtime.answer(1), None)
        self.runtime.write(self.s, 2)
        self.assertEqual(self.runtime.answer(1), ("value", 2))

    def test_kinds(self):
        for number in (0, self.runtime.store(0, []), self.runtime.effect(0, [], {}), self.scope):
            with self.assertRaises(RippleError) as caught:
                self.runtime.subscribe(number)
            self.assertEqual(caught.exception.message, "wrong kind")


class StatesTest(SubscriptionTest):
    def test_each_is_undone(self):
        self.pulled()
        self.pulled()
        self.runtime.close(self.w)
        self.runtime.undo()
        self.assertIs(self.runtime.answer(1), None)
        self.runtime.undo()
        with self.assertRaises(RippleError) as caught:
            self.runtime.answer(1)
        self.assertEqual(caught.exception.message, "no such pull")
        self.runtime.undo()
        self.assertEqual(self.pulled(), ("value", 1))
        self.runtime.undo()
        self.runtime.undo()
        with self.assertRaises(RippleError) as caught:
            self.runtime.pull(self.w)
        self.assertEqual(caught.exception.message, "no such subscription")
        self.assertEqual(len(self.runtime.nodes()), 3)

    def test_a_pull_of_a_closed_one_is_a_state(self):
        self.runtime.close(self.w)
        self.pulled()
        self.runtime.undo()
        with self.assertRaises(RippleError):
            self.runtime.answer(0)
        self.runtime.undo()
        self.assertEqual(self.pulled(), ("value", 1))

    def test_what_was_reported_is_undone(self):
        self.pulled()
        self.pulled()
        self.runtime.write(self.s, 2)
        self.runtime.undo()
        self.assertIs(self.runtime.answer(1), None)
        self.runtime.write(self.s, 3)
        self.assertEqual(self.runtime.answer(1), ("value", 3))


class RunsTest(unittest.TestCase):
    def setUp(self):
        self.runtime = Runtime()
        self.s = self.runtime.signal(0, 1)
        self.c = self.runtime.computed(0, [give(read("s"))], names(s=self.s))

    def cause(self, old, new):
        return ("changed", ("value", self.s), ("value", old), ("value", new))

    def test_pulls_that_read(self):
        watch = self.runtime.subscribe(self.c)
        self.runtime.pull(watch)
        self.assertEqual(self.runtime.runs(), [(self.c, ("first",))])
        self.runtime.write(self.s, 2)
        self.assertEqual(self.runtime.runs(), [])
        self.runtime.pull(watch)
        self.assertEqual(self.runtime.runs(), [(self.c, self.cause(1, 2))])
        self.runtime.pull(watch)
        self.assertEqual(self.runtime.runs(), [])
        self.runtime.write(self.s, 3)
        self.assertEqual(self.runtime.runs(), [(self.c, self.cause(2, 3))])
        self.assertEqual(self.runtime.answer(2), ("value", 3))

    def test_a_pull_that_waits_behind_others_reads_nothing(self):
        watch = self.runtime.subscribe(self.c)
        for _ in range(3):
            self.runtime.pull(watch)
        self.assertEqual(self.runtime.runs(), [])
        self.runtime.close(watch)
        self.runtime.write(self.s, 3)
        self.runtime.pull(watch)
        self.assertEqual(self.runtime.runs(), [])

    def test_subscriptions_are_served_behind_the_requests(self):
        watch = self.runtime.subscribe(self.c)
        self.runtime.pull(watch)
        self.runtime.pull(watch)
        r = self.runtime.resource(0, [give(read("s"))], names(s=self.s))
        e = self.runtime.effect(0, [emit(read("s"))], names(s=self.s))
        self.runtime.write(self.s, 2)
        self.assertEqual(self.runtime.runs(), [(e, self.cause(1, 2)), (r, self.cause(1, 2)), (self.c, self.cause(1, 2))])

    def test_subscriptions_are_served_in_the_order_in_which_they_were_made(self):
        other = self.runtime.computed(0, [give(read("s"))], names(s=self.s))
        late, early = self.runtime.subscribe(other), self.runtime.subscribe(self.c)
        for watch in (early, late, early, late):
            self.runtime.pull(watch)
        self.runtime.write(self.s, 2)
        self.assertEqual(self.runtime.runs(), [(other, self.cause(1, 2)), (self.c, self.cause(1, 2))])


if __name__ == "__main__":
    unittest.main()
