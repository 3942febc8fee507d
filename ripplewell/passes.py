"""Propagation: the passes in which effects and keyed effects are executed."""

from ripplewell.errors import RippleError
from ripplewell.running import EFFECT, Run, unless_error
from ripplewell.statements import run_block
from ripplewell.states import Node, Plan
from ripplewell.values import cut

MOST_PASSES = 10


def propagate(core):
    """Let the effects see what has changed, in as many passes as that takes."""
    for _ in range(MOST_PASSES):
        if not run_pass(core, True):
            return
    run_pass(core, False)


def run_pass(core, may_execute):
    """Give each effect its turn; tell whether something was executed."""
    core.defers = True
    executed = False
    number = following(core, 0)
    while number is not None:
        cause = core.cause_for(core.node_at(number).reads)
        if cause is not None:
            if not may_execute:
                raise RippleError("did not settle")
            executed = True
            execute(core, number, cause)
        number = following(core, number)
    core.defers = False
    make_deferred_changes(core)
    return executed


def following(core, number):
    """Return the first active effect or keyed effect behind a number, or None."""
    for other in core.now.alive:
        if other > number and core.kind_of(other) in ("effect", "keyed"):
            return other
    return None


def make_deferred_changes(core):
    """Make the deferred changes, without those to disposed nodes."""
    changes = core.deferred
    core.deferred = []
    for change in changes:
        if core.is_active(change[1]):
            core.carry_out(change)


def execute(core, number, cause):
    """Execute an effect or a keyed effect; its nearest boundary takes its error."""
    core.trail.append((number, cause))
    mark = core.mark()
    try:
        if core.kind_of(number) == "effect":
            execute_effect(core, number)
        else:
            execute_keyed(core, number)
    except RippleError as error:
        boundary = nearest_boundary(core, number)
        if boundary is None:
            raise
        core.go_back_without_numbers(mark)
        core.dispose_descendants(boundary)
        core.write(boundary, cut(error.message))


def nearest_boundary(core, number):
    """Return the first boundary among the owners of a node, or None."""
    number = core.node_at(number).owner
    while number is not None and core.kind_of(number) != "boundary":
        number = core.node_at(number).owner
    return number


def execute_effect(core, number):
    """Execute the program of an effect."""
    core.dispose_descendants(number)
    core.clean_up(number)
    plan = core.node_at(number).plan
    run = Run(core, EFFECT, number, plan.setting)
    run_block(run, plan.program)
    node = core.renewed(number)
    node.reads = tuple(run.reads.items())


def execute_keyed(core, number):
    """Dispose of the effects whose keys are gone, and make those of new keys."""
    source = core.node_at(number).plan.source
    reading = unless_error(core.look(source))
    members = core.node_at(number).members
    gone = [members[key] for key in members if key not in reading[1]]
    for child in sorted(gone, reverse=True):
        core.dispose(child, None)
    present = {}
    for key in reading[1]:
        child = members.get(key)
        if child is None or not core.is_active(child):
            child = make_member(core, number, key)
        present[key] = child
    node = core.renewed(number)
    node.members = present
    node.reads = ((source, reading),)


def make_member(core, number, key):
    """Make the effect of a keyed effect for a key."""
    plan = core.node_at(number).plan
    setting = dict(plan.setting)
    setting[plan.name] = key
    return core.make(Node("effect", number, None, Plan(plan.program, setting)))
