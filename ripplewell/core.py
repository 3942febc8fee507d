"""The core of a runtime: its present state, what changes it, and what is read of it."""

from ripplewell.errors import RippleError
from ripplewell.readings import ABSENT, DISPOSED, same
from ripplewell.running import KEPT, Run
from ripplewell.statements import run_block
from ripplewell.states import Node, State

MOST_ACTIVE = 24
MOST_MADE = 20
MOST_KEPT_STATES = 16
FIRST = ("first",)


class Core:
    """The state of a runtime and of the transaction that goes on.

    keeps tells whether the results of computed nodes and resources are kept;
    now is the present state, past are those that undoing goes back to; trail
    are the runs of the last call; output is that of the transaction, and base
    the number of nodes at its beginning; deferred are the writes of a pass,
    and defers tells whether one goes on; current are the nodes whose kept
    results are known to be up to date.
    """

    def __init__(self, keeps):
        self.keeps = keeps
        self.now = State()
        self.past = []
        self.trail = []
        self.output = []
        self.base = 1
        self.deferred = []
        self.defers = False
        self.current = {}

    # The state, and going back to an earlier one.

    def begin(self):
        """Begin an outermost transaction."""
        self.output = []
        self.base = len(self.now.table)
        self.deferred = []
        self.defers = False

    def remember(self, state):
        """Keep a state for undoing, and forget the oldest one if there are too many."""
        self.past.append(state)
        if len(self.past) > MOST_KEPT_STATES:
            self.past = self.past[1:]

    def restore(self, state):
        """Make an earlier state the present one."""
        self.now = state
        self.current = {}

    def mark(self):
        """Return what go_back needs to come back to here, within a transaction."""
        return list(self.now.table), list(self.now.alive), len(self.output), len(self.deferred)

    def go_back(self, mark):
        """Go back to a mark, once."""
        state = self.now
        state.table, state.alive, put_out, written = mark
        del self.output[put_out:]
        del self.deferred[written:]
        self.current = {}

    def go_back_without_numbers(self, mark):
        """Go back to a mark, but the nodes that were made since keep their numbers, disposed."""
        made = self.now.table[len(mark[0]):]
        self.go_back(mark)
        self.now.table.extend([Node(node.kind, node.owner) for node in made])

    # Nodes.

    def node_at(self, number):
        """Return a node, which must not be changed."""
        return self.now.table[number]

    def kind_of(self, number):
        """Return the kind of a node."""
        return self.now.table[number].kind

    def is_active(self, number):
        """Tell whether a node is active."""
        return number in self.now.alive

    def demand_active(self, number):
        """Raise an error if a node is disposed."""
        if number not in self.now.alive:
            raise RippleError("disposed")

    def renewed(self, number):
        """Put a copy of a node into its place, and return it to be changed."""
        node = self.now.table[number].copied()
        self.now.table[number] = node
        return node

    def make(self, node):
        """Make a node, and return its number."""
        self.demand_active(node.owner)
        number = len(self.now.table)
        if len(self.now.alive) >= MOST_ACTIVE or number - self.base >= MOST_MADE:
            raise RippleError("too many nodes")
        self.now.table.append(node)
        self.now.alive.append(number)
        return number

    def is_within(self, number, outer):
        """Tell whether a node is another one or is owned by it, directly or indirectly."""
        while number is not None:
            if number == outer:
                return True
            number = self.now.table[number].owner
        return False

    def descendants(self, number):
        """Return the active descendants of a node, in the order in which they were made."""
        return [other for other in self.now.alive if other != number and self.is_within(other, number)]

    # Contexts, output and cleanups.

    def use(self, number, context):
        """Return the value of a context for a node."""
        self.demand_active(number)
        while number is not None:
            node = self.now.table[number]
            if context in node.provided:
                return node.provided[context]
            number = node.owner
        return self.now.defaults[context]

    def provide(self, number, context, value):
        """Let a node provide a value for a context."""
        self.demand_active(number)
        if any([node.owner == number for node in self.now.table]):
            raise RippleError("too late")
        node = self.renewed(number)
        provided = dict(node.provided)
        provided[context] = value
        node.provided = provided

    def emit(self, number, value):
        """Put a value into the output, for a node."""
        self.demand_active(number)
        self.output.append(value)

    def cleanup(self, number, value):
        """Add a cleanup to a node."""
        self.demand_active(number)
        node = self.renewed(number)
        node.cleanups = node.cleanups + (value,)

    def clean_up(self, number):
        """Put the cleanups of a node into the output."""
        if self.now.table[number].cleanups:
            node = self.renewed(number)
            self.output.extend(node.cleanups[::-1])
            node.cleanups = ()

    # Disposing.

    def dispose(self, number, running):
        """Dispose of a node while the program of the effect running, if it is not None, runs."""
        if number == 0:
            raise RippleError("root stays")
        if running is not None and self.is_within(running, number):
            raise RippleError("running")
        if self.is_active(number):
            self.dispose_descendants(number)
            self.end(number)

    def dispose_descendants(self, number):
        """Dispose of all descendants of a node, the latest made first."""
        for other in reversed(self.descendants(number)):
            self.end(other)

    def end(self, number):
        """Dispose of a node that has no active descendants."""
        self.clean_up(number)
        state = self.now
        state.alive = [other for other in state.alive if other != number]
        self.current = {}

    # Writes. A change is a tuple of a word, a node, a key and a value.

    def write(self, number, value):
        """Write a value to a signal or a boundary."""
        self.change(("write", number, None, value))

    def put(self, number, key, value):
        """Give a key of a store a value."""
        self.change(("put", number, key, value))

    def take_out(self, number, key):
        """Remove a key from a store."""
        self.change(("remove", number, key, None))

    def change(self, change):
        """Make a change, now or, in a pass, at its end."""
        self.demand_active(change[1])
        if self.defers:
            self.deferred.append(change)
        else:
            self.carry_out(change)

    def carry_out(self, change):
        """Make a change to an active node now."""
        word, number, key, value = change
        node = self.renewed(number)
        if word == "write":
            node.held = value
        elif word == "put":
            held = dict(node.held)
            held[key] = value
            node.held = held
        else:
            node.held = {other: node.held[other] for other in node.held if other != key}
        self.current = {}

    # Reading.

    def look(self, source):
        """Return the reading of a source."""
        number = source[1]
        if number not in self.now.alive:
            return DISPOSED
        node = self.now.table[number]
        word = source[0]
        if word == "state":
            return ("value", self.standing(number)[0])
        if word == "keys":
            return ("keys", tuple(node.held))
        if word == "has":
            return ("value", source[2] in node.held)
        if word == "get":
            return ("value", node.held[source[2]]) if source[2] in node.held else ABSENT
        if node.kind == "computed":
            return self.refreshed(number)
        if node.kind == "resource":
            return self.standing(number)[1]
        return ("value", node.held)

    def standing(self, number):
        """Return the state of a resource, the reading of its value, and that of its key."""
        key = self.refreshed(number)
        if key[0] == "error":
            return "failed", key, key
        if key[1] is None:
            return "idle", key, key
        latest = self.now.table[number].latest
        request = None if latest is None else self.now.asked[latest]
        if request is None or request.answered is None or not same(key, ("value", request.key)):
            return "pending", ("value", None), key
        return "ready" if request.answered[0] == "value" else "failed", request.answered, key

    def refreshed(self, number):
        """Return the reading of the program of a computed node or a resource."""
        if not self.keeps:
            return self.outcome(number)[0]
        if number not in self.current:
            cause = self.cause_for(self.now.table[number].reads)
            if cause is not None:
                self.trail.append((number, cause))
                result, reads = self.outcome(number)
                node = self.renewed(number)
                node.result = result
                node.reads = reads
            self.current[number] = True
        return self.now.table[number].result

    def outcome(self, number):
        """Execute the program of a computed node or a resource; return its reading and its dependencies."""
        plan = self.now.table[number].plan
        run = Run(self, KEPT, number, plan.setting)
        try:
            done = run_block(run, plan.program)
            result = ("value", None if done is None else done[0])
        except RippleError as error:
            result = ("error", error.message)
        return result, tuple(run.reads.items())

    def cause_for(self, reads):
        """Return why what has these dependencies has to be executed, or None if they are up to date."""
        if reads is None:
            return FIRST
        for source, old in reads:
            new = self.look(source)
            if not same(old, new):
                return ("changed", source, old, new)
        return None
