"""One execution of a program: its variables, what it may do, and what it has read."""

from ripplewell.errors import RippleError
from ripplewell.values import is_key

# The program of a computed node or a resource is run as KEPT.
KEPT = "kept"
EFFECT = "effect"
TRANSACTION = "transaction"


def demand_key(value):
    """Raise an error if a value that stands for a key is none."""
    if not is_key(value):
        raise RippleError("not a key")


class Run:
    """One execution.

    number is the computed node or the resource, or the node that owns what
    the program makes; reads are the recorded readings by their sources.
    """

    def __init__(self, core, mode, number, setting):
        self.core = core
        self.mode = mode
        self.number = number
        self.variables = dict(setting)
        self.reads = {}

    def thing_of(self, name):
        """Return what a variable has."""
        if name not in self.variables:
            raise RippleError("no such variable")
        return self.variables[name]

    def value_of(self, name):
        """Return the value of a variable."""
        thing = self.thing_of(name)
        if isinstance(thing, tuple):
            raise RippleError("wrong kind")
        return thing

    def node_of(self, name, kinds):
        """Return the number of the node of a variable, which must be of one of the kinds."""
        thing = self.thing_of(name)
        if not isinstance(thing, tuple) or thing[0] != "node" or self.core.kind_of(thing[1]) not in kinds:
            raise RippleError("wrong kind")
        return thing[1]

    def context_of(self, name):
        """Return the number of the context of a variable."""
        thing = self.thing_of(name)
        if not isinstance(thing, tuple) or thing[0] != "context":
            raise RippleError("wrong kind")
        return thing[1]

    def keep_node(self, name, number):
        """Give a node to a variable."""
        self.variables[name] = ("node", number)

    def read(self, source):
        """Read a source, record that, and return the reading if it is no error."""
        if self.mode == KEPT and source[1] >= self.number:
            if self.core.kind_of(source[1]) in ("computed", "resource"):
                raise RippleError("made later")
        reading = self.core.look(source)
        if self.mode != TRANSACTION and source not in self.reads:
            self.reads[source] = reading
        return unless_error(reading)


def unless_error(reading):
    """Return a reading, but raise it if it is an error."""
    if reading[0] == "error":
        raise RippleError(reading[1])
    return reading
