"""Point [10]: contexts, what provides them, and what uses them."""

import unittest

from ripplewell.errors import RippleError

from helping import Both, CallTest, emit, fail, give, names, value


class ContextTest(CallTest):
    def setUp(self):
        self.runtime = Both()
        self.c = self.runtime.context("default")

    def setting(self, **numbers):
        found = names(**numbers)
        found["c"] = ("context", self.c)
        return found

    def test_numbers_and_defaults(self):
        self.assertEqual(self.c, 0)
        for number, thing in enumerate((None, False, 0, "", 5, True), 1):
            self.assertEqual(self.runtime.context(thing), number)
            self.assertIs(self.runtime.use(0, number), thing)
        self.assertEqual(self.runtime.use(0, self.c), "default")

    def test_the_nearest_that_provides(self):
        outer = self.runtime.scope(0)
        self.assertIs(self.runtime.provide(outer, self.c, "outer"), None)
        middle = self.runtime.boundary(outer)
        inner = self.runtime.scope(middle)
        self.runtime.provide(inner, self.c, None)
        other = self.runtime.context("other")
        for number, thing in ((0, "default"), (outer, "outer"), (middle, "outer"), (inner, None)):
            self.assertEqual(self.runtime.use(number, self.c), thing)
            self.assertEqual(self.runtime.use(number, other), "other")
        self.runtime.provide(inner, other, 7)
        self.assertEqual(self.runtime.use(inner, other), 7)
        self.assertEqual(self.runtime.use(inner, self.c), None)

    def test_the_root_can_provide(self):
        self.runtime.provide(0, self.c, "root")
        scope = self.runtime.scope(self.runtime.scope(0))
        self.assertEqual(self.runtime.use(scope, self.c), "root")
        self.fails("too late", "provide", 0, self.c, "again")

    def test_providing_again(self):
        scope = self.runtime.scope(0)
        self.runtime.provide(scope, self.c, 1)
        self.runtime.provide(scope, self.c, 2)
        self.assertEqual(self.runtime.use(scope, self.c), 2)

    def test_in_programs(self):
        scope = self.runtime.scope(0)
        self.runtime.provide(scope, self.c, "provided")
        inner = self.runtime.boundary(scope)
        program = [emit(("use", "c"))]
        self.runtime.transaction(inner, program, self.setting())
        self.runtime.transaction(0, program, self.setting())
        self.runtime.effect(inner, program, self.setting())
        self.runtime.effect(inner, [("effect", "e", program)], self.setting())
        self.runtime.keyed(inner, self.runtime.store(0, [("a", 1)]), "k", program, self.setting())
        self.assertEqual(self.runtime.delivered(), ["provided", "default", "provided", "provided", "provided"])

    def test_a_use_is_no_read(self):
        scope = self.runtime.scope(0)
        number = self.runtime.effect(scope, [emit(("use", "c"))], self.setting())
        self.assertEqual(self.runtime.dependencies(number), [])

    def test_a_scope_that_an_effect_made(self):
        owner = self.runtime.scope(0)
        self.runtime.provide(owner, self.c, "owner")
        effect = self.runtime.effect(owner, [("scope", "z")], {})
        self.assertEqual(self.runtime.use(effect + 1, self.c), "owner")
        self.runtime.provide(effect + 1, self.c, "inner")
        self.runtime.transaction(effect + 1, [emit(("use", "c"))], self.setting())
        self.assertEqual(self.runtime.delivered(), ["inner"])

    def test_too_late(self):
        scope = self.runtime.scope(0)
        self.runtime.transaction(scope, [("scope", "x"), ("dispose", "x")], {})
        self.fails("too late", "provide", scope, self.c, 1)
        inner = len(self.runtime.nodes()) - 1
        self.fails("disposed", "provide", inner, self.c, 1)
        self.fails("disposed", "use", inner, self.c)

    def test_nodes_that_were_rolled_back_or_undone_do_not_count(self):
        scope = self.runtime.scope(0)
        with self.assertRaises(RippleError):
            self.runtime.transaction(scope, [("scope", "x"), fail("x")], {})
        self.runtime.transaction(scope, [("atomic", [("scope", "x"), fail("x")], "m", [])], {})
        self.runtime.scope(scope)
        self.runtime.undo()
        self.runtime.provide(scope, self.c, 1)
        self.runtime.signal(scope, 1)
        self.fails("too late", "provide", scope, self.c, 2)

    def test_what_else_happens_in_a_scope_makes_nothing_late(self):
        scope = self.runtime.scope(0)
        self.runtime.emit(scope, 1)
        self.runtime.cleanup(scope, 2)
        self.runtime.transaction(scope, [give(1)], {})
        self.runtime.provide(scope, self.c, 1)
        self.assertEqual(self.runtime.use(scope, self.c), 1)

    def test_disposed_ahead_of_too_late(self):
        scope = self.runtime.scope(0)
        self.runtime.scope(scope)
        self.runtime.dispose(scope)
        self.fails("disposed", "provide", scope, self.c, 1)
        self.fails("disposed", "use", scope, self.c)

    def test_arguments_ahead_of_disposed(self):
        scope = self.runtime.scope(0)
        self.runtime.dispose(scope)
        self.fails("no such context", "provide", scope, 9, "x" * 41)
        self.fails("not a value", "provide", scope, self.c, "x" * 41)
        self.fails("no such context", "use", scope, 9)

    def test_undo(self):
        scope = self.runtime.scope(0)
        self.runtime.provide(scope, self.c, 1)
        self.assertIs(self.runtime.undo(), True)
        self.assertEqual(self.runtime.use(scope, self.c), "default")
        self.assertEqual(self.runtime.context(3), 1)
        self.assertIs(self.runtime.undo(), True)
        self.fails("no such context", "use", scope, 1)

    def test_a_context_in_a_setting(self):
        self.fails("not a setting", "transaction", 0, [], {"c": ("context", 1)})
        self.assertEqual(self.runtime.transaction(0, [give(("use", "c"))], {"c": ("context", 0)}), "default")
        self.assertEqual(self.runtime.transaction(0, [("let", "c", value(1)), ("try", [give(("use", "c"))], "m",
                                                                              [give(("var", "m"))])],
                                                  self.setting()), "wrong kind")


if __name__ == "__main__":
    unittest.main()
