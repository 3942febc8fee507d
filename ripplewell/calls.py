"""The calls of a runtime: each looks at its arguments from left to right, then does its work."""

from ripplewell.checks import (
    KEEPERS, RESOURCES, RUNNING, STORES, check_any_node, check_context, check_key, check_message, check_node,
    check_pairs, check_program, check_pull, check_request, check_setting, check_source, check_subscription,
    check_value,
)
from ripplewell.commits import answer_request, close_at, concerns, make_pull, outermost
from ripplewell.core import Core
from ripplewell.expressions import READABLE
from ripplewell.programs import frozen
from ripplewell.running import TRANSACTION, Run, unless_error
from ripplewell.statements import DISPOSABLE, run_block
from ripplewell.states import Node, Plan, Subscription


class Calls:
    """All calls of a runtime. keeps tells whether it keeps the results of computed nodes and resources."""

    def __init__(self, keeps):
        self.core = Core(keeps)

    def started(self):
        """Forget the runs of the last call, and return the core."""
        self.core.trail = []
        return self.core

    # Making nodes.

    def signal(self, owner, value):
        core = self.started()
        check_node(core, owner, KEEPERS)
        check_value(value)
        return outermost(core, lambda: core.make(Node("signal", owner, value)))

    def store(self, owner, pairs):
        core = self.started()
        check_node(core, owner, KEEPERS)
        check_pairs(pairs)
        held = {key: value for key, value in pairs}
        return outermost(core, lambda: core.make(Node("store", owner, held)))

    def keeper(self, kind, owner):
        """Make a scope or a boundary."""
        core = self.started()
        check_node(core, owner, KEEPERS)
        return outermost(core, lambda: core.make(Node(kind, owner)))

    def with_program(self, kind, owner, program, setting):
        """Make a computed node, an effect or a resource."""
        core = self.started()
        check_node(core, owner, KEEPERS)
        check_program(program)
        check_setting(core, setting)
        plan = Plan(frozen(program), dict(setting))
        return outermost(core, lambda: core.make(Node(kind, owner, None, plan)))

    def keyed(self, owner, store, name, program, setting):
        core = self.started()
        check_node(core, owner, KEEPERS)
        check_node(core, store, STORES)
        check_key(name)
        check_program(program)
        check_setting(core, setting)
        plan = Plan(frozen(program), dict(setting), ("keys", store), name)
        return outermost(core, lambda: core.make(Node("keyed", owner, None, plan)))

    # Contexts.

    def context(self, default):
        check_value(default)
        core = self.core
        core.remember(core.now.copied())
        core.now.defaults.append(default)
        return len(core.now.defaults) - 1

    def provide(self, node, context, value):
        core = self.core
        check_node(core, node, KEEPERS)
        check_context(core, context)
        check_value(value)
        before = core.now.copied()
        core.provide(node, context, value)
        core.remember(before)

    def use(self, node, context):
        check_node(self.core, node, KEEPERS)
        check_context(self.core, context)
        return self.core.use(node, context)

    # Changing.

    def emit(self, node, value):
        core = self.started()
        check_node(core, node, KEEPERS)
        check_value(value)
        outermost(core, lambda: core.emit(node, value))

    def cleanup(self, node, value):
        core = self.started()
        check_node(core, node, KEEPERS)
        check_value(value)
        outermost(core, lambda: core.cleanup(node, value))

    def dispose(self, node):
        core = self.started()
        check_node(core, node, DISPOSABLE)
        outermost(core, lambda: core.dispose(node, None))

    def write(self, node, value):
        core = self.started()
        check_node(core, node, ("signal",))
        check_value(value)
        outermost(core, lambda: core.write(node, value))

    def put(self, node, key, value):
        core = self.started()
        check_node(core, node, STORES)
        check_key(key)
        check_value(value)
        outermost(core, lambda: core.put(node, key, value))

    def take_out(self, node, key):
        """Remove a key."""
        core = self.started()
        check_node(core, node, STORES)
        check_key(key)
        outermost(core, lambda: core.take_out(node, key))

    def reset(self, node):
        core = self.started()
        check_node(core, node, ("boundary",))
        outermost(core, lambda: core.write(node, None))

    # Reading.

    def read(self, node):
        core = self.started()
        check_node(core, node, READABLE)
        return unless_error(core.look(("value", node)))[1]

    def state(self, node):
        core = self.started()
        check_node(core, node, RESOURCES)
        return unless_error(core.look(("state", node)))[1]

    def value_at(self, node, key):
        """Return the value of a key, or None."""
        core = self.started()
        check_node(core, node, STORES)
        check_key(key)
        reading = unless_error(core.look(("get", node, key)))
        return None if reading[0] == "absent" else reading[1]

    def has(self, node, key):
        core = self.started()
        check_node(core, node, STORES)
        check_key(key)
        return unless_error(core.look(("has", node, key)))[1]

    def key_list(self, node):
        """Return the list of the keys of a store."""
        core = self.started()
        check_node(core, node, STORES)
        return list(unless_error(core.look(("keys", node)))[1])

    def reading(self, source):
        core = self.started()
        check_source(core, source)
        return core.look(source)

    def is_disposed(self, node):
        check_any_node(self.core, node)
        return not self.core.is_active(node)

    # Transactions and what comes later.

    def transaction(self, node, program, setting):
        core = self.started()
        check_node(core, node, KEEPERS)
        check_program(program)
        check_setting(core, setting)
        run = Run(core, TRANSACTION, node, setting)
        block = frozen(program)
        done = outermost(core, lambda: run_block(run, block))
        return None if done is None else done[0]

    def respond(self, request, value):
        core = self.started()
        check_request(core, request)
        check_value(value)
        return self.conclude(request, ("value", value))

    def reject(self, request, message):
        core = self.started()
        check_request(core, request)
        check_message(message)
        return self.conclude(request, ("error", message))

    def conclude(self, request, reading):
        """Answer a request if that concerns a resource; tell whether it does."""
        core = self.core
        if not concerns(core, request):
            return False
        outermost(core, lambda: answer_request(core, request, reading))
        return True

    def subscribe(self, node):
        core = self.core
        check_node(core, node, READABLE)
        core.remember(core.now.copied())
        core.now.watches.append(Subscription(node))
        return len(core.now.watches) - 1

    def pull(self, subscription):
        core = self.started()
        check_subscription(core, subscription)
        core.remember(core.now.copied())
        return make_pull(core, subscription)

    def close(self, subscription):
        core = self.core
        check_subscription(core, subscription)
        core.remember(core.now.copied())
        close_at(core, subscription)

    def answer(self, pull):
        check_pull(self.core, pull)
        return self.core.now.answers[pull]

    def undo(self):
        core = self.started()
        if not core.past:
            return False
        core.restore(core.past.pop())
        return True

    # Telling.

    def delivered(self):
        return list(self.core.now.told)

    def requests(self):
        return [request.key for request in self.core.now.asked]

    def runs(self):
        return list(self.core.trail)

    def dependencies(self, node):
        core = self.core
        check_node(core, node, RUNNING)
        reads = core.node_at(node).reads
        return None if reads is None else list(reads)

    def nodes(self):
        core = self.core
        return [(node.kind, node.owner, core.is_active(number)) for number, node in enumerate(core.now.table)]
