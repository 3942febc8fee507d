"""The statements of programs: what each of them does."""

from ripplewell.errors import RippleError
from ripplewell.expressions import evaluate
from ripplewell.running import EFFECT, KEPT, TRANSACTION, demand_key
from ripplewell.states import Node, Plan
from ripplewell.values import cut, is_empty, text_of

DISPOSABLE = ("scope", "boundary", "effect", "keyed", "resource")
READ_ONLY = ("let", "if", "each", "try", "raise", "return")


def run_block(run, block):
    """Execute a block; return None, or a tuple with the result if a return has ended the program."""
    for statement in block:
        word = statement[0]
        if run.mode == KEPT and word not in READ_ONLY:
            raise RippleError("not allowed here")
        action = ACTIONS[word]
        done = action(run, statement)
        if done is not None:
            return done
    return None


def let_variable(run, statement):
    """("let", x, e)"""
    run.variables[statement[1]] = evaluate(run, statement[2])


def choose_block(run, statement):
    """("if", e, block, block)"""
    if is_empty(evaluate(run, statement[1])):
        return run_block(run, statement[3])
    return run_block(run, statement[2])


def go_through(run, statement):
    """("each", y, x, block)"""
    reading = run.read(("keys", run.node_of(statement[2], ("store",))))
    for key in reading[1]:
        run.variables[statement[1]] = key
        done = run_block(run, statement[3])
        if done is not None:
            return done
    return None


def try_block(run, statement):
    """("try", block, y, block)"""
    try:
        return run_block(run, statement[1])
    except RippleError as error:
        message = error.message
    run.variables[statement[2]] = cut(message)
    return run_block(run, statement[3])


def raise_text(run, statement):
    """("raise", e)"""
    raise RippleError("error " + text_of(evaluate(run, statement[1])))


def return_value(run, statement):
    """("return", e)"""
    return (evaluate(run, statement[1]),)


def emit_value(run, statement):
    """("emit", e)"""
    run.core.emit(run.number, evaluate(run, statement[1]))


def write_value(run, statement):
    """("write", x, e)"""
    value = evaluate(run, statement[2])
    run.core.write(run.node_of(statement[1], ("signal",)), value)


def put_value(run, statement):
    """("put", x, e, f)"""
    key = evaluate(run, statement[2])
    value = evaluate(run, statement[3])
    number = run.node_of(statement[1], ("store",))
    demand_key(key)
    run.core.put(number, key, value)


def remove_key(run, statement):
    """("remove", x, e)"""
    key = evaluate(run, statement[2])
    number = run.node_of(statement[1], ("store",))
    demand_key(key)
    run.core.take_out(number, key)


def reset_boundary(run, statement):
    """("reset", x)"""
    run.core.write(run.node_of(statement[1], ("boundary",)), None)


def dispose_node(run, statement):
    """("dispose", x)"""
    number = run.node_of(statement[1], DISPOSABLE)
    run.core.dispose(number, run.number if run.mode == EFFECT else None)


def add_cleanup(run, statement):
    """("cleanup", e)"""
    run.core.cleanup(run.number, evaluate(run, statement[1]))


def make_signal(run, statement):
    """("signal", y, e)"""
    value = evaluate(run, statement[2])
    run.keep_node(statement[1], run.core.make(Node("signal", run.number, value)))


def make_store(run, statement):
    """("store", y, pairs)"""
    held = {}
    for key, expression in statement[2]:
        held[key] = evaluate(run, expression)
    run.keep_node(statement[1], run.core.make(Node("store", run.number, held)))


def make_scope(run, statement):
    """("scope", y), ("boundary", y)"""
    run.keep_node(statement[1], run.core.make(Node(statement[0], run.number)))


def make_running(run, statement):
    """("computed", y, program), ("effect", y, program), ("resource", y, program)"""
    plan = Plan(statement[2], dict(run.variables))
    run.keep_node(statement[1], run.core.make(Node(statement[0], run.number, None, plan)))


def make_keyed(run, statement):
    """("keyed", y, x, z, program)"""
    number = run.node_of(statement[2], ("store",))
    plan = Plan(statement[4], dict(run.variables), ("keys", number), statement[3])
    run.keep_node(statement[1], run.core.make(Node("keyed", run.number, None, plan)))


def run_atomic(run, statement):
    """("atomic", block, y, block)"""
    if run.mode != TRANSACTION:
        raise RippleError("not allowed here")
    mark = run.core.mark()
    variables = dict(run.variables)
    try:
        return run_block(run, statement[1])
    except RippleError as error:
        message = error.message
    run.core.go_back(mark)
    run.variables = variables
    run.variables[statement[2]] = cut(message)
    return run_block(run, statement[3])


ACTIONS = {
    "let": let_variable,
    "if": choose_block,
    "each": go_through,
    "try": try_block,
    "raise": raise_text,
    "return": return_value,
    "emit": emit_value,
    "write": write_value,
    "put": put_value,
    "remove": remove_key,
    "reset": reset_boundary,
    "dispose": dispose_node,
    "cleanup": add_cleanup,
    "signal": make_signal,
    "store": make_store,
    "scope": make_scope,
    "boundary": make_scope,
    "computed": make_running,
    "effect": make_running,
    "resource": make_running,
    "keyed": make_keyed,
    "atomic": run_atomic,
}
