"""The arguments of calls: each function raises an error if one of them is not what it has to be."""

from ripplewell.errors import RippleError
from ripplewell.programs import are_keyed_pairs, is_program
from ripplewell.values import LONGEST_TEXT, is_key, is_value

KEEPERS = ("scope", "boundary")
RESOURCES = ("resource",)
STORES = ("store",)
RUNNING = ("computed", "resource", "effect", "keyed")

# The kinds of nodes that sources of each kind can have.
SOURCES = {
    "value": ("signal", "boundary", "computed", "resource"),
    "state": ("resource",),
    "get": ("store",),
    "has": ("store",),
    "keys": ("store",),
}


def is_place(thing, things):
    """Tell whether a thing is the number of one of these things."""
    return type(thing) == int and 0 <= thing < len(things)


def check_any_node(core, node):
    """Check the number of a node of any kind."""
    if not is_place(node, core.now.table):
        raise RippleError("no such node")


def check_node(core, node, kinds):
    """Check the number of a node of one of the kinds."""
    check_any_node(core, node)
    if core.kind_of(node) not in kinds:
        raise RippleError("wrong kind")


def check_context(core, context):
    """Check the number of a context."""
    if not is_place(context, core.now.defaults):
        raise RippleError("no such context")


def check_subscription(core, subscription):
    """Check the number of a subscription."""
    if not is_place(subscription, core.now.watches):
        raise RippleError("no such subscription")


def check_pull(core, pull):
    """Check the number of a pull."""
    if not is_place(pull, core.now.answers):
        raise RippleError("no such pull")


def check_request(core, request):
    """Check the number of a request."""
    if not is_place(request, core.now.asked):
        raise RippleError("no such request")


def check_value(value):
    """Check a value."""
    if not is_value(value):
        raise RippleError("not a value")


def check_key(key):
    """Check a key, or a name."""
    if not is_key(key):
        raise RippleError("not a key")


def check_pairs(pairs):
    """Check the pairs of a store."""
    if not are_keyed_pairs(pairs) or not all([is_value(value) for key, value in pairs]):
        raise RippleError("not pairs")


def check_message(message):
    """Check the message of a rejection."""
    if type(message) != str or len(message) > LONGEST_TEXT:
        raise RippleError("not a message")


def check_program(program):
    """Check a program."""
    if not is_program(program):
        raise RippleError("not a program")


def check_setting(core, setting):
    """Check a setting."""
    if type(setting) != dict:
        raise RippleError("not a setting")
    for name, thing in setting.items():
        if not is_key(name) or not is_thing(core, thing):
            raise RippleError("not a setting")


def is_thing(core, thing):
    """Tell whether a thing is what a variable of a setting can have."""
    if type(thing) != tuple:
        return is_value(thing)
    if len(thing) != 2 or type(thing[0]) != str:
        return False
    if thing[0] == "node":
        return is_place(thing[1], core.now.table)
    return thing[0] == "context" and is_place(thing[1], core.now.defaults)


def check_source(core, source):
    """Check a source."""
    if type(source) != tuple or len(source) < 2 or type(source[0]) != str or source[0] not in SOURCES:
        raise RippleError("not a source")
    word = source[0]
    if len(source) != (3 if word in ("get", "has") else 2):
        raise RippleError("not a source")
    check_node(core, source[1], SOURCES[word])
    if word in ("get", "has"):
        check_key(source[2])
