"""What a runtime knows at a time: nodes, contexts, requests, subscriptions and pulls.

Nodes, requests and subscriptions are never changed: changed copies take their
places. So a state is copied by copying its lists, and going back is cheap.
"""


class Plan:
    """The program and the setting of a node; for a keyed effect also its source and its name."""

    def __init__(self, program, setting, source=None, name=None):
        self.program = program
        self.setting = setting
        self.source = source
        self.name = name


class Node:
    """One node.

    held is the value of a signal, the message of a boundary, or the dict of a
    store; reads are the dependencies of the last execution, and result its
    reading; members are the effects of a keyed effect by their keys; latest is
    the latest request of a resource.
    """

    def __init__(self, kind, owner, held=None, plan=None):
        self.kind = kind
        self.owner = owner
        self.held = held
        self.plan = plan
        self.cleanups = ()
        self.provided = {}
        self.reads = None
        self.result = None
        self.members = {}
        self.latest = None

    def copied(self):
        """Return a copy of this node."""
        other = Node(self.kind, self.owner, self.held, self.plan)
        other.cleanups = self.cleanups
        other.provided = self.provided
        other.reads = self.reads
        other.result = self.result
        other.members = self.members
        other.latest = self.latest
        return other


class Request:
    """A request that the resource asker has made; answered is the reading of its answer, or None."""

    def __init__(self, asker, key, answered=None):
        self.asker = asker
        self.key = key
        self.answered = answered


class Subscription:
    """A subscription: its node, the reading reported last, the pulls that wait, whether it is closed."""

    def __init__(self, node, last=None, waiting=(), closed=False):
        self.node = node
        self.last = last
        self.waiting = waiting
        self.closed = closed


class State:
    """Everything that undoing goes back to."""

    def __init__(self):
        self.table = [Node("scope", None)]
        self.alive = [0]
        self.defaults = []
        self.told = ()
        self.asked = []
        self.watches = []
        self.answers = []

    def copied(self):
        """Return a copy of this state, which has lists of its own."""
        other = State()
        other.table = list(self.table)
        other.alive = list(self.alive)
        other.defaults = list(self.defaults)
        other.told = self.told
        other.asked = list(self.asked)
        other.watches = list(self.watches)
        other.answers = list(self.answers)
        return other
