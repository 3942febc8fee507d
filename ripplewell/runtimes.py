"""The runtimes: one that keeps what it has computed, and a plain one that computes everything anew."""

from ripplewell.calls import Calls


class Runtime:
    """A reactive runtime: it keeps the results of computed nodes and resources with their dependencies."""

    def __init__(self):
        self._calls = Calls(True)

    # Making nodes.

    def signal(self, owner, value):
        """Make a signal with a value in a scope or a boundary; return its number."""
        return self._calls.signal(owner, value)

    def store(self, owner, pairs):
        """Make a store with a list of pairs of keys and values; return its number."""
        return self._calls.store(owner, pairs)

    def scope(self, owner):
        """Make a scope; return its number."""
        return self._calls.keeper("scope", owner)

    def boundary(self, owner):
        """Make a boundary; return its number."""
        return self._calls.keeper("boundary", owner)

    def computed(self, owner, program, setting):
        """Make a computed node; return its number."""
        return self._calls.with_program("computed", owner, program, setting)

    def effect(self, owner, program, setting):
        """Make an effect; return its number."""
        return self._calls.with_program("effect", owner, program, setting)

    def resource(self, owner, program, setting):
        """Make a resource; return its number."""
        return self._calls.with_program("resource", owner, program, setting)

    def keyed(self, owner, store, name, program, setting):
        """Make a keyed effect for a store, whose effects have their keys as a variable; return its number."""
        return self._calls.keyed(owner, store, name, program, setting)

    # Contexts.

    def context(self, default):
        """Make a context; return its number."""
        return self._calls.context(default)

    def provide(self, node, context, value):
        """Let a scope or a boundary provide a value for a context."""
        self._calls.provide(node, context, value)

    def use(self, node, context):
        """Return the value of a context for a scope or a boundary."""
        return self._calls.use(node, context)

    # Changing.

    def emit(self, node, value):
        """Put a value into the output."""
        self._calls.emit(node, value)

    def cleanup(self, node, value):
        """Add a cleanup to a scope or a boundary."""
        self._calls.cleanup(node, value)

    def dispose(self, node):
        """Dispose of a node and of its descendants."""
        self._calls.dispose(node)

    def write(self, node, value):
        """Write a value to a signal."""
        self._calls.write(node, value)

    def put(self, node, key, value):
        """Give a key of a store a value."""
        self._calls.put(node, key, value)

    def remove(self, node, key):
        """Remove a key from a store."""
        self._calls.take_out(node, key)

    def reset(self, node):
        """Write None to a boundary."""
        self._calls.reset(node)

    # Reading.

    def read(self, node):
        """Return the value of a signal, a boundary, a computed node or a resource."""
        return self._calls.read(node)

    def state(self, node):
        """Return the state of a resource: "idle", "pending", "ready" or "failed"."""
        return self._calls.state(node)

    def get(self, node, key):
        """Return the value of a key of a store, or None."""
        return self._calls.value_at(node, key)

    def has(self, node, key):
        """Tell whether a store has a key."""
        return self._calls.has(node, key)

    def keys(self, node):
        """Return the list of the keys of a store."""
        return self._calls.key_list(node)

    def reading(self, source):
        """Return the reading of a source, also if it is an error."""
        return self._calls.reading(source)

    def is_disposed(self, node):
        """Tell whether a node is disposed."""
        return self._calls.is_disposed(node)

    # Transactions and what comes later.

    def transaction(self, node, program, setting):
        """Execute a program as a transaction in a scope or a boundary; return its result."""
        return self._calls.transaction(node, program, setting)

    def respond(self, request, value):
        """Answer a request with a value; tell whether that concerns a resource."""
        return self._calls.respond(request, value)

    def reject(self, request, message):
        """Reject a request with a message; tell whether that concerns a resource."""
        return self._calls.reject(request, message)

    def subscribe(self, node):
        """Make a subscription to the value of a node; return its number."""
        return self._calls.subscribe(node)

    def pull(self, subscription):
        """Make a pull of a subscription; return its number."""
        return self._calls.pull(subscription)

    def close(self, subscription):
        """Close a subscription."""
        self._calls.close(subscription)

    def answer(self, pull):
        """Return the answer of a pull, or None if it waits."""
        return self._calls.answer(pull)

    def undo(self):
        """Go back to the newest state that is kept; tell whether there was one."""
        return self._calls.undo()

    # Telling.

    def delivered(self):
        """Return the list of all values that were delivered."""
        return self._calls.delivered()

    def requests(self):
        """Return the list of the keys of all requests."""
        return self._calls.requests()

    def runs(self):
        """Return the list of the runs of the last call that had any to tell."""
        return self._calls.runs()

    def dependencies(self, node):
        """Return the list of the dependencies of the last execution of a node, or None."""
        return self._calls.dependencies(node)

    def nodes(self):
        """Return for each node the tuple of its kind, its owner, and whether it is active."""
        return self._calls.nodes()


class PlainRuntime:
    """A runtime with the same calls, which executes computed nodes and resources each time that they are read."""

    def __init__(self):
        self._calls = Calls(False)

    # Making nodes.

    def signal(self, owner, value):
        return self._calls.signal(owner, value)

    def store(self, owner, pairs):
        return self._calls.store(owner, pairs)

    def scope(self, owner):
        return self._calls.keeper("scope", owner)

    def boundary(self, owner):
        return self._calls.keeper("boundary", owner)

    def computed(self, owner, program, setting):
        return self._calls.with_program("computed", owner, program, setting)

    def effect(self, owner, program, setting):
        return self._calls.with_program("effect", owner, program, setting)

    def resource(self, owner, program, setting):
        return self._calls.with_program("resource", owner, program, setting)

    def keyed(self, owner, store, name, program, setting):
        return self._calls.keyed(owner, store, name, program, setting)

    # Contexts.

    def context(self, default):
        return self._calls.context(default)

    def provide(self, node, context, value):
        self._calls.provide(node, context, value)

    def use(self, node, context):
        return self._calls.use(node, context)

    # Changing.

    def emit(self, node, value):
        self._calls.emit(node, value)

    def cleanup(self, node, value):
        self._calls.cleanup(node, value)

    def dispose(self, node):
        self._calls.dispose(node)

    def write(self, node, value):
        self._calls.write(node, value)

    def put(self, node, key, value):
        self._calls.put(node, key, value)

    def remove(self, node, key):
        self._calls.take_out(node, key)

    def reset(self, node):
        self._calls.reset(node)

    # Reading.

    def read(self, node):
        return self._calls.read(node)

    def state(self, node):
        return self._calls.state(node)

    def get(self, node, key):
        return self._calls.value_at(node, key)

    def has(self, node, key):
        return self._calls.has(node, key)

    def keys(self, node):
        return self._calls.key_list(node)

    def reading(self, source):
        return self._calls.reading(source)

    def is_disposed(self, node):
        return self._calls.is_disposed(node)

    # Transactions and what comes later.

    def transaction(self, node, program, setting):
        return self._calls.transaction(node, program, setting)

    def respond(self, request, value):
        return self._calls.respond(request, value)

    def reject(self, request, message):
        return self._calls.reject(request, message)

    def subscribe(self, node):
        return self._calls.subscribe(node)

    def pull(self, subscription):
        return self._calls.pull(subscription)

    def close(self, subscription):
        self._calls.close(subscription)

    def answer(self, pull):
        return self._calls.answer(pull)

    def undo(self):
        return self._calls.undo()

    # Telling.

    def delivered(self):
        return self._calls.delivered()

    def requests(self):
        return self._calls.requests()

    def runs(self):
        return self._calls.runs()

    def dependencies(self, node):
        return self._calls.dependencies(node)

    def nodes(self):
        return self._calls.nodes()
