"""Points [29] to [32]: transactions, nested transactions, and the output."""

import unittest

from ripplewell.errors import RippleError
from ripplewell.runtimes import Runtime

from helping import Both, attempt, emit, everything, fail, give, names, node, read, value, var

V = value(1)
FIRST = ("first",)


class TransactionTest(unittest.TestCase):
    def setUp(self):
        self.runtime = Both()
        self.s = self.runtime.signal(0, 1)
        self.p = self.runtime.store(0, [("a", 1)])
        self.b = self.runtime.boundary(0)

    def run_it(self, *program, at=0, **numbers):
        return self.runtime.transaction(at, list(program), names(s=self.s, p=self.p, b=self.b, **numbers))

    def fails(self, message, *program, at=0, **numbers):
        before = everything(self.runtime.kept)
        with self.assertRaises(RippleError) as caught:
            self.run_it(*program, at=at, **numbers)
        self.assertEqual(caught.exception.message, message)
        self.assertEqual(everything(self.runtime.kept), before)


class OutermostTest(TransactionTest):
    def test_what_it_does_takes_effect_at_once(self):
        result = self.run_it(("write", "s", value(5)), ("put", "p", value("b"), read("s")), ("remove", "p", value("a")),
                             give(("join", ("size", "p"), ("get", "p", value("b")))))
        self.assertEqual(result, "15")
        self.assertEqual(self.runtime.keys(self.p), ["b"])

    def test_propagation_follows_when_the_program_has_ended(self):
        self.runtime.effect(0, [emit(("join", value("e"), read("s")))], names(s=self.s))
        self.run_it(emit("a"), ("write", "s", value(2)), emit("b"), ("write", "s", value(3)), emit("c"))
        self.assertEqual(self.runtime.delivered(), ["e1", "a", "b", "c", "e3"])

    def test_what_is_undone_within_it_is_no_change(self):
        self.runtime.effect(0, [emit(read("s"))], names(s=self.s))
        self.run_it(("write", "s", value(2)), ("write", "s", value(1)))
        self.assertEqual(self.runtime.runs(), [])

    def test_results(self):
        for thing in (None, True, 5, "text"):
            self.assertIs(self.run_it(give(thing)), thing)
        self.assertIs(self.runtime.transaction(0, [], {}), None)
        self.assertEqual(self.runtime.transaction(self.b, [give(("add", var("x"), V))], {"x": 4}), 5)

    def test_an_error_rolls_everything_back(self):
        self.fails("error x", emit(1), ("write", "s", value(2)), ("put", "p", value("b"), V), ("remove", "p", value("a")),
                   ("signal", "y", V), ("effect", "e", []), ("scope", "z"), ("cleanup", V), ("dispose", "b"), fail("x"))
        self.assertEqual(self.runtime.runs(), [])
        self.assertEqual(self.runtime.scope(0), 4)

    def test_an_error_of_propagation_rolls_the_program_back(self):
        self.fails("error late", emit(1), ("write", "s", value(2)), ("effect", "e", [fail("late")]))
        self.assertEqual(self.runtime.runs(), [(4, FIRST)])

    def test_every_call_that_is_a_transaction(self):
        self.runtime.effect(0, [emit(("join", value("s"), read("s")))], names(s=self.s))
        self.runtime.effect(0, [emit(("size", "p"))], names(p=self.p))
        self.assertIs(self.runtime.write(self.s, 2), None)
        self.assertIs(self.runtime.put(self.p, "b", 2), None)
        self.assertIs(self.runtime.remove(self.p, "a"), None)
        self.assertIs(self.runtime.emit(0, "out"), None)
        scope = self.runtime.scope(0)
        self.assertIs(self.runtime.cleanup(scope, "bye"), None)
        self.assertIs(self.runtime.dispose(scope), None)
        self.assertIs(self.runtime.reset(self.b), None)
        self.assertEqual(self.runtime.delivered(), ["s1", 1, "s2", 2, 1, "out", "bye"])

    def test_the_output_of_all_transactions(self):
        self.runtime.emit(0, 1)
        self.fails("error x", emit(2), fail("x"))
        self.run_it(emit(3), emit(4))
        self.runtime.emit(self.b, None)
        self.assertEqual(repr(self.runtime.delivered()), "[1, 3, 4, None]")

    def test_in_a_boundary_whose_program_fails(self):
        self.fails("error x", fail("x"), at=self.b)
        self.assertIs(self.runtime.read(self.b), None)

    def test_transactions_that_change_nothing_commit(self):
        self.run_it()
        self.runtime.write(self.s, 1)
        self.runtime.remove(self.p, "z")
        before = self.runtime.nodes()
        for _ in range(3):
            self.assertIs(self.runtime.undo(), True)
            self.assertEqual(self.runtime.nodes(), before)
        self.assertIs(self.runtime.undo(), True)
        self.assertEqual(len(self.runtime.nodes()), 3)

    def test_an_effect_with_the_owner_of_the_transaction(self):
        self.run_it(("effect", "e", []), ("signal", "y", V), at=self.b)
        self.assertEqual(self.runtime.nodes()[4:], [("effect", self.b, True), ("signal", self.b, True)])


class NestedTest(TransactionTest):
    def test_without_an_error(self):
        result = self.run_it(("atomic", [emit(1), ("write", "s", value(5)), ("let", "x", value("x")), ("signal", "y", V)],
                              "m", [emit("never")]), give(("join", var("x"), read("s"))))
        self.assertEqual(result, "x5")
        self.assertEqual(self.runtime.delivered(), [1])
        self.assertEqual(self.runtime.nodes()[4:], [("signal", 0, True)])

    def test_with_an_error(self):
        scope = self.runtime.scope(0)
        self.runtime.cleanup(scope, "bye")
        block = [emit(1), ("write", "s", value(5)), ("put", "p", value("b"), V), ("remove", "p", value("a")),
                 ("let", "x", value("new")), ("let", "z", value("z")), ("signal", "y", V), ("dispose", "w"),
                 ("cleanup", V), ("reset", "b"), fail("x")]
        result = self.run_it(emit(0), ("let", "x", value("old")), ("atomic", block, "m", [emit("caught")]),
                             ("emit", var("m")), ("emit", read("s")), ("emit", var("x")), ("emit", ("size", "p")),
                             *attempt([("emit", var("z"))]), *attempt([("emit", var("y"))]),
                             ("scope", "y"), give("end"), w=scope)
        self.assertEqual(result, "end")
        self.assertEqual(self.runtime.delivered(),
                         [0, "caught", "error x", 1, "old", 1, "no such variable", "no such variable"])
        self.assertEqual(self.runtime.keys(self.p), ["a"])
        self.assertEqual(self.runtime.nodes()[4:], [("scope", 0, True), ("scope", 0, True)])
        self.runtime.dispose(scope)
        self.assertEqual(self.runtime.delivered()[8:], ["bye"])

    def test_the_variable_itself_is_put_back_first(self):
        self.run_it(("let", "m", value("old")), ("atomic", [("let", "m", value("new")), fail("x")], "m", []),
                    ("emit", var("m")))
        self.run_it(("let", "m", value("old")), ("atomic", [("let", "m", value("new"))], "m", []), ("emit", var("m")))
        self.assertEqual(self.runtime.delivered(), ["error x", "new"])

    def test_variables_that_named_nodes(self):
        self.run_it(("atomic", [("let", "s", V), ("signal", "p", V), fail("x")], "m", []), ("emit", read("s")),
                    ("emit", ("size", "p")))
        self.assertEqual(self.runtime.delivered(), [1, 1])

    def test_the_message_is_cut(self):
        self.run_it(("atomic", [fail("x" * 40)], "m", [("emit", var("m"))]))
        self.assertEqual(self.runtime.delivered(), ["error " + "x" * 34])

    def test_a_return_within_it_ends_the_whole_program(self):
        for block in ([give(5)], [("atomic", [give(5)], "m", [])], [("if", V, [give(5)], [])],
                      [("try", [give(5)], "m", [])], [("atomic", [fail("x")], "m", [give(5)])]):
            result = self.run_it(("atomic", [("write", "s", value(9)), emit("in")] + block, "m", [emit("never")]),
                                 emit("never"))
            self.assertEqual(result, 5)
        self.assertEqual(self.runtime.delivered(), ["in"] * 5)
        self.assertEqual(self.runtime.read(self.s), 9)

    def test_an_error_in_the_second_block(self):
        self.fails("error y", emit(1), ("atomic", [fail("x")], "m", [emit(2), fail("y")]))
        self.run_it(("try", [("atomic", [emit(0), fail("x")], "m", [("let", "x", V), emit(2), fail("y")])], "n",
                     [("emit", var("m")), ("emit", var("n")), ("emit", var("x"))]))
        self.assertEqual(self.runtime.delivered(), [2, "error x", "error y", 1])

    def test_one_within_another(self):
        self.run_it(("atomic", [
            emit(1), ("atomic", [emit(2), ("write", "s", value(2)), fail("inner")], "m", [("emit", var("m"))]),
            ("atomic", [emit(3), ("write", "s", value(3))], "m", []), emit(read("s")), fail("outer")],
            "n", [("emit", var("n")), ("emit", read("s"))]))
        self.assertEqual(self.runtime.delivered(), ["error outer", 1])
        self.run_it(("atomic", [
            emit(1), ("atomic", [emit(2), ("write", "s", value(2)), fail("inner")], "m", [("emit", var("m"))]),
            ("write", "s", value(7))], "n", []))
        self.assertEqual(self.runtime.delivered()[2:], [1, "error inner"])
        self.assertEqual(self.runtime.read(self.s), 7)

    def test_numbers_of_nodes_are_free_again(self):
        self.run_it(("atomic", [("scope", "x"), ("signal", "y", V), fail("x")], "m", []), ("signal", "z", V))
        self.assertEqual(self.runtime.nodes()[4:], [("signal", 0, True)])

    def test_nodes_that_were_rolled_back_do_not_count(self):
        nested = ("atomic", [("scope", "x")] * 15 + [fail("x")], "m", [])
        self.run_it(nested, nested, *([("scope", "x"), ("dispose", "x")] * 20))
        self.assertEqual(len(self.runtime.nodes()), 24)
        self.fails("too many nodes", nested, *([("scope", "x"), ("dispose", "x")] * 21))

    def test_nodes_of_one_that_was_not_rolled_back_count(self):
        self.fails("too many nodes", ("atomic", [("scope", "x"), ("dispose", "x")] * 15, "m", []),
                   *([("scope", "x"), ("dispose", "x")] * 6))

    def test_too_many_nodes_within_it(self):
        self.run_it(("scope", "z"), ("atomic", [("scope", "x"), ("dispose", "x")] * 21, "m", [("emit", var("m"))]),
                    *([("scope", "x"), ("dispose", "x")] * 19))
        self.assertEqual(self.runtime.delivered(), ["too many nodes"])

    def test_active_nodes_within_it(self):
        self.run_it(*([("scope", "x")] * 19))
        self.run_it(("atomic", [("scope", "x"), fail("x")], "m", []), ("scope", "x"),
                    ("atomic", [("scope", "x")], "m", [("emit", var("m"))]))
        self.assertEqual(self.runtime.delivered(), ["too many nodes"])

    def test_nodes_that_it_disposed_of_are_active_again(self):
        scope = self.runtime.scope(0)
        effect = self.runtime.effect(scope, [emit(read("s")), ("cleanup", value("c"))], names(s=self.s))
        self.run_it(("atomic", [("dispose", "z"), ("write", "s", value(4)), fail("x")], "m", []), z=scope)
        self.assertEqual(self.runtime.runs(), [])
        self.assertEqual(self.runtime.delivered(), [1])
        self.run_it(("atomic", [("dispose", "z"), fail("x")], "m", []), ("write", "s", value(4)), z=scope)
        self.assertEqual([run[0] for run in self.runtime.runs()], [effect])
        self.assertEqual(self.runtime.delivered(), [1, "c", 4])

    def test_the_scope_of_the_transaction(self):
        scope = self.runtime.scope(0)
        self.run_it(("atomic", [("dispose", "z"), fail("x")], "m", []), emit("still"), ("signal", "y", V),
                    at=scope, z=scope)
        self.assertEqual(self.runtime.delivered(), ["still"])

    def test_effects_that_it_made(self):
        self.run_it(("atomic", [("effect", "e", [emit("never")]), fail("x")], "m", []),
                    ("atomic", [("effect", "e", [emit("once")])], "m", []))
        self.assertEqual(self.runtime.delivered(), ["once"])

    def test_in_every_kind_of_block(self):
        for wrap in (lambda block: ("if", V, block, []), lambda block: ("each", "k", "p", block),
                     lambda block: ("try", block, "n", []), lambda block: ("atomic", block, "n", []),
                     lambda block: ("atomic", [fail("y")], "n", block)):
            self.run_it(wrap([("atomic", [emit("no"), fail("x")], "m", [emit("yes")])]))
        self.assertEqual(self.runtime.delivered(), ["yes"] * 5)


class KeptTest(unittest.TestCase):
    def test_what_a_nested_transaction_kept_is_forgotten(self):
        runtime = Runtime()
        s = runtime.signal(0, 1)
        c = runtime.computed(0, [give(read("s"))], names(s=s))
        cause = ("changed", ("value", s), ("value", 1), ("value", 2))
        nested = ("atomic", [("write", "s", value(2)), emit(read("c")), fail("x")], "m", [])
        runtime.transaction(0, [nested, emit(read("c"))], names(s=s, c=c))
        self.assertEqual(runtime.runs(), [(c, FIRST), (c, FIRST)])
        runtime.transaction(0, [nested, emit(read("c")), nested], names(s=s, c=c))
        self.assertEqual(runtime.runs(), [(c, cause), (c, cause)])
        self.assertEqual(runtime.delivered(), [1, 1])
        self.assertEqual(runtime.dependencies(c), [(("value", s), ("value", 1))])

    def test_what_it_kept_without_an_error_stays(self):
        runtime = Runtime()
        s = runtime.signal(0, 1)
        c = runtime.computed(0, [give(read("s"))], names(s=s))
        runtime.transaction(0, [("atomic", [emit(read("c"))], "m", []), emit(read("c"))], {"s": node(s), "c": node(c)})
        self.assertEqual(runtime.runs(), [(c, FIRST)])


if __name__ == "__main__":
    unittest.main()
