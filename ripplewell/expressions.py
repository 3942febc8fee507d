"""The expressions of programs: what each of them gives."""

from ripplewell.errors import RippleError
from ripplewell.running import KEPT, demand_key, unless_error
from ripplewell.values import cut, equal, is_empty, text_of

READABLE = ("signal", "boundary", "computed", "resource")
NUMBERS = 1000

# Behind these words stands the name of a variable, ahead of all expressions.
NAMED = ("var", "read", "peek", "state", "get", "has", "size", "use")


def evaluate(run, expression):
    """Return the value of an expression."""
    word = expression[0]
    if word == "value":
        return expression[1]
    parts = []
    for part in expression[2 if word in NAMED else 1:]:
        parts.append(evaluate(run, part))
    action = ACTIONS[word]
    return action(run, expression, parts)


def forbid_in_kept(run):
    """Raise an error if the program is one of a computed node or a resource."""
    if run.mode == KEPT:
        raise RippleError("not allowed here")


def take_variable(run, expression, parts):
    """("var", x)"""
    return run.value_of(expression[1])


def read_value(run, expression, parts):
    """("read", x)"""
    return run.read(("value", run.node_of(expression[1], READABLE)))[1]


def peek_value(run, expression, parts):
    """("peek", x)"""
    forbid_in_kept(run)
    number = run.node_of(expression[1], READABLE)
    return unless_error(run.core.look(("value", number)))[1]


def read_state(run, expression, parts):
    """("state", x)"""
    return run.read(("state", run.node_of(expression[1], ("resource",))))[1]


def get_value(run, expression, parts):
    """("get", x, e)"""
    number = run.node_of(expression[1], ("store",))
    demand_key(parts[0])
    reading = run.read(("get", number, parts[0]))
    return None if reading[0] == "absent" else reading[1]


def has_key(run, expression, parts):
    """("has", x, e)"""
    number = run.node_of(expression[1], ("store",))
    demand_key(parts[0])
    return run.read(("has", number, parts[0]))[1]


def count_keys(run, expression, parts):
    """("size", x)"""
    return len(run.read(("keys", run.node_of(expression[1], ("store",))))[1]) % NUMBERS


def use_context(run, expression, parts):
    """("use", x)"""
    forbid_in_kept(run)
    return run.core.use(run.number, run.context_of(expression[1]))


def are_integers(parts):
    """Tell whether both values are integers."""
    return type(parts[0]) == int and type(parts[1]) == int


def add_values(run, expression, parts):
    """("add", e, f)"""
    return (parts[0] + parts[1]) % NUMBERS if are_integers(parts) else None


def join_texts(run, expression, parts):
    """("join", e, f)"""
    return cut(text_of(parts[0]) + text_of(parts[1]))


def compare_equal(run, expression, parts):
    """("equal", e, f)"""
    return equal(parts[0], parts[1])


def compare_less(run, expression, parts):
    """("less", e, f)"""
    return are_integers(parts) and parts[0] < parts[1]


def negate(run, expression, parts):
    """("not", e)"""
    return is_empty(parts[0])


ACTIONS = {
    "var": take_variable,
    "read": read_value,
    "peek": peek_value,
    "state": read_state,
    "get": get_value,
    "has": has_key,
    "size": count_keys,
    "use": use_context,
    "add": add_values,
    "join": join_texts,
    "equal": compare_equal,
    "less": compare_less,
    "not": negate,
}
