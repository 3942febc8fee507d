"""Points [11], [13], [14], [15] and [24]: every statement, in each kind of program."""

import unittest

from ripplewell.errors import RippleError

from helping import Both, Names, attempt, emit, everything, fail, give, names, node, read, value, var

V = value(1)

ONLY_WRITING = [
    emit(1), ("write", "signal", V), ("put", "store", value("a"), V), ("remove", "store", value("a")),
    ("reset", "boundary"), ("dispose", "scope"), ("cleanup", V), ("signal", "y", V), ("store", "y", [("a", V)]),
    ("scope", "y"), ("boundary", "y"), ("computed", "y", []), ("effect", "y", []), ("resource", "y", []),
    ("keyed", "y", "store", "z", []), ("atomic", [], "y", []),
]

MISSING_PARTS = [
    emit(var("missing")), ("write", "missing", var("missing")), ("put", "missing", V, V), ("remove", "missing", V),
    ("reset", "missing"), ("dispose", "missing"), ("cleanup", var("missing")), ("signal", "y", var("missing")),
    ("store", "y", [("a", var("missing"))]), ("keyed", "y", "missing", "z", []), ("reset", "signal"),
    ("dispose", "signal"), ("atomic", [fail("x")], "y", [fail("y")]),
]


class StatementTest(unittest.TestCase):
    def setUp(self):
        self.runtime = Both()
        self.names = Names(self.runtime)
        self.setting = self.names.setting()

    def run_it(self, *program):
        return self.runtime.transaction(0, list(program), self.setting)

    def fails(self, message, *program):
        before = everything(self.runtime.kept)
        with self.assertRaises(RippleError) as caught:
            self.run_it(*program)
        self.assertEqual(caught.exception.message, message)
        self.assertEqual(everything(self.runtime.kept), before)

    def effect_fails(self, message, *program):
        boundary = self.runtime.boundary(0)
        self.runtime.effect(boundary, list(program), self.setting)
        self.assertEqual(self.runtime.read(boundary), message)
        self.runtime.dispose(boundary)


class PlainTest(StatementTest):
    def test_a_program_without_return_has_the_result_none(self):
        self.assertIs(self.run_it(), None)
        self.assertIs(self.run_it(("let", "x", V)), None)

    def test_let(self):
        self.assertEqual(self.run_it(("let", "x", V), ("let", "x", ("add", var("x"), V)), give(var("x"))), 2)
        self.assertEqual(self.run_it(("let", "signal", value("new")), give(var("signal"))), "new")
        self.fails("wrong kind", ("let", "x", var("signal")))
        self.fails("no such variable", ("let", "x", var("x")))

    def test_if(self):
        for thing in (None, False, 0, ""):
            self.assertEqual(self.run_it(("if", value(thing), [give("full")], [give("empty")])), "empty")
        for thing in (True, 1, "0", " "):
            self.assertEqual(self.run_it(("if", value(thing), [give("full")], [give("empty")])), "full")
        self.assertEqual(self.run_it(("if", V, [], [give(1)]), give(2)), 2)
        self.fails("no such variable", ("if", var("missing"), [], []))

    def test_return_ends_the_program(self):
        self.assertEqual(self.run_it(give(1), emit(2), give(3)), 1)
        self.assertEqual(self.runtime.delivered(), [])
        for thing in (None, False, True, 0, "", "a"):
            self.assertIs(self.run_it(give(thing)), thing)
        self.assertEqual(self.run_it(("if", V, [("try", [give(1)], "m", [emit(2)])], []), emit(3)), 1)
        self.assertEqual(self.run_it(("each", "k", "store", [give(var("k"))]), give("end")), "a")
        self.assertEqual(self.run_it(("try", [fail("x")], "m", [give(var("m"))]), emit(3)), "error x")
        self.assertEqual(self.runtime.delivered(), [])

    def test_return_ends_the_program_of_an_effect(self):
        self.runtime.effect(0, [emit(1), give(2), emit(3)], {})
        self.assertEqual(self.runtime.delivered(), [1])

    def test_each(self):
        self.run_it(("each", "k", "store", [("emit", ("join", var("k"), ("get", "store", var("k"))))]),
                    ("emit", var("k")))
        self.assertEqual(self.runtime.delivered(), ["a1", "b2", "b"])
        empty = node(self.runtime.store(0, []))
        self.setting["store"] = empty
        self.run_it(("let", "k", value("old")), ("each", "k", "store", [emit("x")]), ("emit", var("k")))
        self.assertEqual(self.runtime.delivered()[3:], ["old"])
        self.fails("no such variable", ("each", "k", "store", []), ("emit", var("k")))

    def test_each_reads_the_keys_once(self):
        self.run_it(("each", "k", "store", [("put", "store", ("join", var("k"), value("x")), V),
                                            ("remove", "store", value("b")), ("emit", var("k"))]))
        self.assertEqual(self.runtime.delivered(), ["a", "b"])
        self.assertEqual(self.runtime.keys(self.names.store), ["a", "ax", "bx"])

    def test_each_looks_at_its_variable(self):
        self.fails("no such variable", ("each", "k", "missing", []))
        for name in ("signal", "computed", "scope", "number", "context"):
            self.fails("wrong kind", ("each", "k", name, []))

    def test_try(self):
        self.assertEqual(self.run_it(("try", [emit(1), fail("x"), emit(2)], "m", [emit(3)]), give(var("m"))), "error x")
        self.assertEqual(self.runtime.delivered(), [1, 3])
        self.assertEqual(self.run_it(("let", "m", V), ("try", [emit(4)], "m", [emit(5)]), give(var("m"))), 1)
        self.assertEqual(self.runtime.delivered(), [1, 3, 4])
        self.assertEqual(self.run_it(*attempt([("let", "x", var("missing"))]), give(var("message"))), "no such variable")
        self.fails("error y", ("try", [fail("x")], "m", [fail("y")]))
        self.fails("error x", ("try", [], "m", [emit(5)]), fail("x"))

    def test_try_cuts_the_message(self):
        long = "x" * 40
        self.assertEqual(self.run_it(("try", [fail(long)], "m", [give(var("m"))])), "error " + "x" * 34)
        self.fails("error " + long, fail(long))
        self.fails("error error " + "x" * 34, ("try", [fail(long)], "m", [("raise", var("m"))]))

    def test_try_keeps_what_its_block_has_done(self):
        self.run_it(("try", [("let", "x", V), ("write", "signal", value(7)), ("signal", "y", V), fail("x")], "m", []),
                    ("emit", var("x")), ("emit", read("y")))
        self.assertEqual(self.runtime.read(self.names.signal), 7)
        self.assertEqual(self.runtime.delivered(), [1, 1])

    def test_what_each_and_try_have_put_into_their_variables_stays(self):
        self.run_it(("try", [("each", "k", "store", [("if", ("equal", var("k"), value("b")), [fail("x")], [])])],
                     "m", [("emit", ("join", var("k"), var("m")))]))
        self.run_it(("try", [("try", [fail("x")], "inner", [fail("y")])], "outer",
                     [("emit", ("join", var("inner"), var("outer")))]))
        self.assertEqual(self.runtime.delivered(), ["berror x", "error xerror y"])

    def test_raise(self):
        for thing, text in ((None, "none"), (True, "true"), (False, "false"), (0, "0"), (12, "12"), ("", ""), ("a", "a")):
            self.fails("error " + text, fail(thing))
        self.fails("no such variable", ("raise", var("missing")))

    def test_emit(self):
        self.run_it(emit(1), emit("a"), emit(None), emit(True))
        self.assertEqual(repr(self.runtime.delivered()), "[1, 'a', None, True]")
        self.fails("wrong kind", emit(1), ("emit", var("signal")))

    def test_write(self):
        self.assertEqual(self.run_it(("write", "signal", value("new")), give(read("signal"))), "new")
        self.assertEqual(self.runtime.read(self.names.signal), "new")
        for name in ("boundary", "store", "computed", "resource", "scope", "number", "context"):
            self.fails("wrong kind", ("write", name, V))
        self.fails("no such variable", ("write", "missing", V))

    def test_put_and_remove(self):
        self.run_it(("put", "store", value("c"), value(3)), ("put", "store", value("a"), value(9)))
        self.assertEqual(self.runtime.keys(self.names.store), ["a", "b", "c"])
        self.assertEqual(self.runtime.get(self.names.store, "a"), 9)
        self.run_it(("remove", "store", value("a")), ("put", "store", value("a"), value(4)))
        self.assertEqual(self.runtime.keys(self.names.store), ["b", "c", "a"])
        self.run_it(("remove", "store", value("z")))
        self.assertEqual(self.runtime.keys(self.names.store), ["b", "c", "a"])
        self.assertEqual(self.run_it(("remove", "store", value("b")), give(("size", "store"))), 2)
        for statement in (("put", "signal", value("a"), V), ("remove", "signal", value("a"))):
            self.fails("wrong kind", statement)
        for thing in (None, 1, "", "A", "abcdefghi"):
            self.fails("not a key", ("put", "store", value(thing), V))
            self.fails("not a key", ("remove", "store", value(thing)))

    def test_the_kind_of_a_value_is_kept(self):
        self.run_it(("put", "store", value("a"), value(True)))
        self.assertIs(self.runtime.get(self.names.store, "a"), True)
        self.run_it(("put", "store", value("a"), value(1)))
        self.assertIs(type(self.runtime.get(self.names.store, "a")), int)

    def test_reset(self):
        self.runtime.effect(self.names.boundary, [fail("x")], {})
        self.assertEqual(self.run_it(give(read("boundary"))), "error x")
        self.assertIs(self.run_it(("reset", "boundary"), give(read("boundary"))), None)
        self.assertIs(self.runtime.read(self.names.boundary), None)
        for name in ("signal", "scope", "store", "number"):
            self.fails("wrong kind", ("reset", name))

    def test_dispose(self):
        for name in ("scope", "boundary", "effect", "keyed", "resource"):
            self.run_it(("dispose", name), ("dispose", name))
            self.assertIs(self.runtime.is_disposed(getattr(self.names, name)), True)
        for name in ("signal", "store", "computed", "number", "context"):
            self.fails("wrong kind", ("dispose", name))
        self.setting["root"] = node(0)
        self.fails("root stays", emit(1), ("dispose", "root"))

    def test_cleanup(self):
        inner = self.runtime.scope(0)
        self.runtime.transaction(inner, [("cleanup", value(1)), ("cleanup", value("b")), ("cleanup", value(None))], {})
        self.assertEqual(self.runtime.delivered(), [])
        self.runtime.dispose(inner)
        self.assertEqual(self.runtime.delivered(), [None, "b", 1])
        self.fails("no such variable", ("cleanup", var("missing")))


class MakingTest(StatementTest):
    def made(self, *program):
        before = len(self.runtime.nodes())
        self.run_it(*program)
        return self.runtime.nodes()[before:]

    def test_kinds_and_owners(self):
        for statement in (("signal", "y", V), ("store", "y", []), ("scope", "y"), ("boundary", "y"),
                          ("computed", "y", []), ("effect", "y", []), ("resource", "y", []),
                          ("keyed", "y", "store", "z", [])):
            made = self.made(statement, ("if", V, [("scope", "x")], []), *(
                [("dispose", "y")] if statement[0] not in ("signal", "store", "computed") else []))
            active = statement[0] in ("signal", "store", "computed")
            self.assertEqual(made, [(statement[0], 0, active), ("scope", 0, True)])

    def test_the_owner_is_the_scope_of_the_transaction(self):
        inner = self.runtime.boundary(self.names.scope)
        self.runtime.transaction(inner, [("signal", "y", V), ("scope", "z"), ("signal", "x", V)], {})
        self.assertEqual(self.runtime.nodes()[-3:],
                         [("signal", inner, True), ("scope", inner, True), ("signal", inner, True)])

    def test_signals_and_stores_have_what_they_were_made_with(self):
        self.run_it(("signal", "y", ("add", V, V)), ("emit", read("y")),
                    ("store", "z", [("b", value(5)), ("a", read("y"))]),
                    ("each", "k", "z", [("emit", var("k")), ("emit", ("get", "z", var("k")))]))
        self.assertEqual(self.runtime.delivered(), [2, "b", 5, "a", 2])

    def test_the_pairs_are_evaluated_in_order(self):
        self.fails("wrong kind", ("store", "y", [("b", var("signal")), ("a", var("missing"))]))
        self.fails("no such variable", ("store", "y", [("b", V), ("a", var("missing")), ("c", var("signal"))]))

    def test_the_setting_is_all_variables_as_they_are_now(self):
        self.run_it(("let", "x", value(1)), ("computed", "y", [give(("join", var("x"), read("signal")))]),
                    ("let", "x", value(2)), ("let", "signal", value(3)), ("emit", read("y")))
        self.assertEqual(self.runtime.delivered(), ["11"])

    def test_the_variable_of_a_node_is_not_in_its_own_setting(self):
        self.run_it(("computed", "y", [give(read("y"))]), *attempt([("emit", read("y"))]))
        self.assertEqual(self.runtime.delivered(), ["no such variable"])
        self.run_it(("let", "y", value(8)), ("computed", "y", [give(var("y"))]), ("emit", read("y")))
        self.assertEqual(self.runtime.delivered(), ["no such variable", 8])

    def test_what_a_program_assigns_is_forgotten(self):
        self.run_it(("let", "x", V))
        self.fails("no such variable", ("emit", var("x")))
        program = attempt([("emit", var("x"))]) + [("let", "x", read("signal"))]
        self.runtime.effect(0, program, self.setting)
        self.runtime.write(self.names.signal, 2)
        self.assertEqual(self.runtime.delivered(), ["no such variable"] * 2)
        counting = [("let", "n", ("add", var("n"), read("signal"))), give(var("n"))]
        number = self.runtime.computed(0, counting, {"n": 10, "signal": node(self.names.signal)})
        self.assertEqual(self.runtime.read(number), 12)
        self.runtime.write(self.names.signal, 3)
        self.assertEqual(self.runtime.read(number), 13)

    def test_each_kind_of_running_node(self):
        self.run_it(("effect", "y", [emit("effect")]), ("resource", "z", [give("key")]),
                    ("keyed", "w", "store", "k", [("emit", var("k"))]))
        self.assertEqual(self.runtime.delivered(), ["effect", "a", "b"])
        self.assertEqual(self.runtime.requests(), ["key"])

    def test_keyed_looks_at_its_variable(self):
        self.fails("no such variable", ("keyed", "y", "missing", "z", []))
        for name in ("signal", "scope", "computed", "number", "context"):
            self.fails("wrong kind", ("keyed", "y", name, "z", []))

    def test_in_an_effect_the_effect_is_the_owner(self):
        program = [("signal", "y", V), ("store", "w", []), ("scope", "x"), ("boundary", "x"), ("computed", "x", []),
                   ("effect", "x", []), ("resource", "x", []), ("keyed", "x", "w", "z", [])]
        number = self.runtime.effect(self.names.scope, program, {})
        self.assertEqual(self.runtime.nodes()[number + 1:], [
            (kind, number, True) for kind in
            ("signal", "store", "scope", "boundary", "computed", "effect", "resource", "keyed")])

    def test_a_transaction_with_every_statement_returns_what_it_returns(self):
        self.assertEqual(self.run_it(("scope", "y"), ("dispose", "y"), ("cleanup", V), ("reset", "boundary"),
                                     ("write", "signal", value(2)), give(read("signal"))), 2)


class ReadOnlyTest(StatementTest):
    def test_what_is_not_allowed(self):
        for statement in ONLY_WRITING + MISSING_PARTS:
            scope = self.runtime.scope(0)
            with self.subTest(statement=statement):
                for kind in ("computed", "resource"):
                    number = getattr(self.runtime, kind)(scope, [statement, give(1)], self.setting)
                    self.assertEqual(self.runtime.reading(("value", number)), ("error", "not allowed here"))
            self.runtime.dispose(scope)

    def test_it_can_be_caught(self):
        number = self.runtime.computed(0, [("try", [emit(1)], "m", [give(var("m"))])], {})
        self.assertEqual(self.runtime.read(number), "not allowed here")
        self.assertEqual(self.runtime.delivered(), [])

    def test_what_is_not_reached_does_no_harm(self):
        number = self.runtime.computed(0, [("if", value(0), [emit(1)], []), give(2), emit(3)], {})
        self.assertEqual(self.runtime.read(number), 2)

    def test_what_is_allowed(self):
        program = [
            ("let", "n", value(0)),
            ("each", "k", "store", [("let", "n", ("add", var("n"), ("get", "store", var("k"))))]),
            ("try", [("raise", var("n"))], "m", [("let", "n", var("m"))]),
            ("if", ("equal", var("n"), value("error 3")), [give(("join", var("n"), read("signal")))], []),
        ]
        number = self.runtime.computed(0, program, self.setting)
        self.assertEqual(self.runtime.read(number), "error 31")
        self.assertEqual(self.runtime.requests(), [])
        self.runtime.resource(0, program, self.setting)
        self.assertEqual(self.runtime.requests(), ["error 31"])

    def test_errors_ahead_of_what_is_not_allowed_in_an_inner_expression(self):
        number = self.runtime.computed(0, [give(("add", var("missing"), ("peek", "signal")))], {})
        self.assertEqual(self.runtime.reading(("value", number)), ("error", "no such variable"))

    def test_atomic_is_allowed_in_a_transaction_only(self):
        self.effect_fails("not allowed here", ("atomic", [], "y", []))
        self.effect_fails("not allowed here", ("if", V, [("atomic", [fail("x")], "y", [])], []))
        self.run_it(("if", V, [("atomic", [emit(1)], "y", [])], []))
        self.assertEqual(self.runtime.delivered(), [1])


class OrderOfErrorsTest(StatementTest):
    def setUp(self):
        StatementTest.setUp(self)
        scope = self.runtime.scope(0)
        self.setting["gone"] = node(self.runtime.signal(scope, 1))
        self.setting["gonestor"] = node(self.runtime.store(scope, []))
        self.setting["gonebou"] = node(self.runtime.boundary(scope))
        self.setting["gonesco"] = node(self.runtime.scope(scope))
        self.runtime.dispose(scope)

    def both_fail(self, message, statement):
        with self.subTest(statement=statement):
            self.fails(message, statement)
            self.effect_fails(message, statement)

    def test_expressions_ahead_of_variables(self):
        bad = var("number"), var("signal"), var("missing")
        self.both_fail("wrong kind", ("write", "missing", bad[1]))
        self.both_fail("no such variable", ("write", "scope", bad[2]))
        self.both_fail("wrong kind", ("put", "missing", bad[1], bad[2]))
        self.both_fail("no such variable", ("put", "scope", bad[2], bad[1]))
        self.both_fail("no such variable", ("put", "scope", bad[0], bad[2]))
        self.both_fail("wrong kind", ("remove", "missing", bad[1]))
        self.both_fail("no such variable", ("remove", "scope", bad[2]))

    def test_variables_ahead_of_keys(self):
        self.both_fail("no such variable", ("put", "missing", V, V))
        self.both_fail("wrong kind", ("put", "signal", V, V))
        self.both_fail("no such variable", ("remove", "missing", V))
        self.both_fail("wrong kind", ("remove", "signal", V))

    def test_keys_ahead_of_what_is_disposed(self):
        self.both_fail("not a key", ("put", "gonestor", V, V))
        self.both_fail("disposed", ("put", "gonestor", value("a"), V))
        self.both_fail("not a key", ("remove", "gonestor", V))
        self.both_fail("disposed", ("remove", "gonestor", value("a")))
        self.both_fail("disposed", ("write", "gone", V))
        self.both_fail("wrong kind", ("write", "gonestor", V))
        self.both_fail("disposed", ("reset", "gonebou"))
        self.both_fail("disposed", ("each", "k", "gonestor", []))

    def test_disposing_of_what_is_disposed_changes_nothing(self):
        self.run_it(("dispose", "gonesco"), ("dispose", "gonebou"))
        self.assertEqual(self.runtime.delivered(), [])

    def test_in_a_scope_that_is_disposed(self):
        scope = self.setting["gonesco"][1]
        for statement in (emit(1), ("cleanup", V), ("signal", "y", V), ("store", "y", []), ("scope", "y"),
                          ("boundary", "y"), ("computed", "y", []), ("effect", "y", []), ("resource", "y", []),
                          ("keyed", "y", "store", "z", []), ("keyed", "y", "gonestor", "z", []),
                          ("let", "x", ("use", "context"))):
            with self.subTest(statement=statement), self.assertRaises(RippleError) as caught:
                self.runtime.transaction(scope, [statement], self.setting)
            self.assertEqual(caught.exception.message, "disposed")
        for statement in (emit(var("missing")), ("cleanup", var("missing")), ("signal", "y", var("missing")),
                          ("store", "y", [("a", var("missing"))]), ("keyed", "y", "missing", "z", []),
                          ("let", "x", ("use", "missing"))):
            with self.assertRaises(RippleError) as caught:
                self.runtime.transaction(scope, [statement], self.setting)
            self.assertEqual(caught.exception.message, "no such variable")
        with self.assertRaises(RippleError) as caught:
            self.runtime.transaction(scope, [("keyed", "y", "signal", "z", [])], self.setting)
        self.assertEqual(caught.exception.message, "wrong kind")
        program = [("write", "signal", value(4)), ("put", "store", value("a"), value(5)), ("dispose", "scope"),
                   ("reset", "boundary"), give(("add", read("signal"), ("get", "store", value("a"))))]
        self.assertEqual(self.runtime.transaction(scope, program, self.setting), 9)

    def test_disposed_ahead_of_too_many_nodes(self):
        scope = self.setting["gonesco"][1]
        while len([1 for entry in self.runtime.nodes() if entry[2]]) < 24:
            self.runtime.scope(0)
        with self.assertRaises(RippleError) as caught:
            self.runtime.scope(scope)
        self.assertEqual(caught.exception.message, "disposed")
        with self.assertRaises(RippleError) as caught:
            self.runtime.scope(0)
        self.assertEqual(caught.exception.message, "too many nodes")

    def test_a_scope_that_its_own_transaction_disposes_of(self):
        scope = self.names.scope
        setting = names(s=scope)
        for statement in (emit(1), ("cleanup", V), ("signal", "y", V)):
            with self.assertRaises(RippleError) as caught:
                self.runtime.transaction(scope, [("dispose", "s"), statement], setting)
            self.assertEqual(caught.exception.message, "disposed")
        self.assertIs(self.runtime.is_disposed(scope), False)
        program = [("dispose", "s")] + attempt([emit(1)])
        with self.assertRaises(RippleError):
            self.runtime.transaction(scope, program, setting)
        self.runtime.transaction(scope, [("cleanup", V), ("dispose", "s"), ("try", [emit(1)], "m", [])], setting)
        self.assertIs(self.runtime.is_disposed(scope), True)
        self.assertEqual(self.runtime.delivered(), [1])

    def test_a_statement_that_raises_has_changed_nothing_by_itself(self):
        self.run_it(("let", "y", value(7)), ("try", [("signal", "y", var("missing"))], "m", []), ("emit", var("y")),
                    ("try", [("put", "store", V, V)], "m", []), ("emit", ("size", "store")))
        self.assertEqual(self.runtime.delivered(), [7, 2])


if __name__ == "__main__":
    unittest.main()
