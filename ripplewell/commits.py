"""Outermost transactions, requests and subscriptions."""

from ripplewell.errors import RippleError
from ripplewell.passes import propagate
from ripplewell.readings import same
from ripplewell.states import Request, Subscription

END = ("end",)


def outermost(core, action):
    """Do what action does as an outermost transaction, and return what it returns."""
    before = core.now.copied()
    core.begin()
    try:
        result = action()
        propagate(core)
    except RippleError:
        core.restore(before)
        raise
    make_requests(core)
    state = core.now
    state.told = state.told + tuple(core.output)
    serve(core)
    core.remember(before)
    return result


def make_requests(core):
    """Let each active resource request its key, unless it has done so last."""
    for number in list(core.now.alive):
        if core.kind_of(number) == "resource":
            make_request(core, number, core.standing(number)[2])


def make_request(core, number, key):
    """Let a resource whose key has this reading make a request if it needs one."""
    if key[0] != "value" or key[1] is None:
        return
    asked = core.now.asked
    latest = core.node_at(number).latest
    if latest is not None and same(key, ("value", asked[latest].key)):
        return
    node = core.renewed(number)
    node.latest = len(asked)
    asked.append(Request(number, key[1]))


def concerns(core, number):
    """Tell whether a response to a request concerns a resource."""
    request = core.now.asked[number]
    if request.answered is not None or not core.is_active(request.asker):
        return False
    return core.node_at(request.asker).latest == number


def answer_request(core, number, reading):
    """Answer a request with a reading."""
    request = core.now.asked[number]
    core.now.asked[number] = Request(request.asker, request.key, reading)
    core.current = {}


def serve(core):
    """Answer pulls that wait, where there is something else to report."""
    for at, watch in enumerate(list(core.now.watches)):
        if watch.waiting and not core.is_active(watch.node):
            close_at(core, at)
        elif watch.waiting:
            reading = core.look(("value", watch.node))
            if not same(reading, watch.last):
                report(core, at, watch.waiting[0], watch.waiting[1:], reading)


def report(core, at, pull, waiting, reading):
    """Answer a pull of a subscription with a reading; waiting are the pulls that go on waiting."""
    core.now.answers[pull] = reading
    core.now.watches[at] = Subscription(core.now.watches[at].node, reading, waiting)


def close_at(core, at):
    """Close a subscription, and answer all its pulls that wait."""
    watch = core.now.watches[at]
    for pull in watch.waiting:
        core.now.answers[pull] = END
    core.now.watches[at] = Subscription(watch.node, watch.last, (), True)


def make_pull(core, at):
    """Make a pull of a subscription, and return its number."""
    state = core.now
    pull = len(state.answers)
    state.answers.append(None)
    watch = state.watches[at]
    if watch.closed:
        state.answers[pull] = END
        return pull
    if not watch.waiting and core.is_active(watch.node):
        reading = core.look(("value", watch.node))
        if watch.last is None or not same(reading, watch.last):
            report(core, at, pull, (), reading)
            return pull
    state.watches[at] = Subscription(watch.node, watch.last, watch.waiting + (pull,))
    if not core.is_active(watch.node):
        close_at(core, at)
    return pull
