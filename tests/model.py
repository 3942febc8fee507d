"""A second runtime, for the tests alone: as slow and as close to the document's words as possible.

Its whole world is one dict. Whatever can be rolled back is a deep copy of it. It does not look at the
arguments of its calls: the rows of calls that it is compared with pass right ones.
"""

import copy

KEEPERS = ("scope", "boundary")
READABLE = ("signal", "boundary", "computed", "resource")
DISPOSABLE = ("scope", "boundary", "effect", "keyed", "resource")
READ_ONLY = ("let", "if", "each", "try", "raise", "return")


class Failure(Exception):
    def __init__(self, message):
        Exception.__init__(self, message)
        self.message = message


class Returned(Exception):
    def __init__(self, value):
        Exception.__init__(self)
        self.value = value


class Program:
    """A program that deep copies share: it never changes."""

    def __init__(self, statements):
        self.statements = copy.deepcopy(statements)

    def __deepcopy__(self, known):
        return self


def equal(one, two):
    return type(one) is type(two) and one == two


def same(one, two):
    if one[0] == two[0] == "value":
        return equal(one[1], two[1])
    return one == two


def text(value):
    return {None: "none"}.get(value, str(value).lower() if isinstance(value, bool) else str(value))


def empty(value):
    return value is None or value is False or value == "" or (type(value) is int and value == 0)


def is_key(value):
    return isinstance(value, str) and 1 <= len(value) <= 8 and all(sign in "abcdefghijklmnopqrstuvwxyz" for sign in value)


class Execution:
    """mode is "read", "effect" or "transaction"; me is the node that owns what is made, or that is read."""

    def __init__(self, model, mode, me, setting):
        self.model = model
        self.mode = mode
        self.me = me
        self.variables = copy.deepcopy(setting)
        self.reads = []

    def run(self, program):
        try:
            self.block(program)
        except Returned as end:
            return end.value
        return None

    def find(self, name, kinds):
        """The value, the node's number or the context's number of a variable."""
        if name not in self.variables:
            raise Failure("no such variable")
        thing = self.variables[name]
        kind, found = ("value", thing) if not isinstance(thing, tuple) else thing
        if kind == "node":
            kind = self.model.node(found)["kind"]
        if kind not in kinds:
            raise Failure("wrong kind")
        return found

    def read(self, source, recorded=True):
        kind = self.model.node(source[1])["kind"]
        if self.mode == "read" and kind in ("computed", "resource") and source[1] >= self.me:
            raise Failure("made later")
        reading = self.model.look(source)
        if recorded and self.mode != "transaction" and source not in [old for old, _ in self.reads]:
            self.reads.append((source, reading))
        if reading[0] == "error":
            raise Failure(reading[1])
        return reading

    def value(self, e):
        word = e[0]
        if word in ("peek", "use") and self.mode == "read":
            raise Failure("not allowed here")
        if word == "value":
            return e[1]
        if word == "var":
            return self.find(e[1], ["value"])
        if word in ("read", "peek"):
            return self.read(("value", self.find(e[1], READABLE)), word == "read")[1]
        if word == "state":
            return self.read(("state", self.find(e[1], ["resource"])))[1]
        if word in ("get", "has"):
            key = self.value(e[2])
            store = self.find(e[1], ["store"])
            if not is_key(key):
                raise Failure("not a key")
            reading = self.read((word, store, key))
            return reading[1] if reading[0] == "value" else None
        if word == "size":
            return len(self.read(("keys", self.find(e[1], ["store"])))[1]) % 1000
        if word == "use":
            context = self.find(e[1], ["context"])
            self.model.must_be_active(self.me)
            return self.model.context_value(self.me, context)
        values = [self.value(part) for part in e[1:]]
        if word == "not":
            return empty(values[0])
        one, two = values
        integers = type(one) is int and type(two) is int
        if word == "add":
            return (one + two) % 1000 if integers else None
        if word == "join":
            return (text(one) + text(two))[:40]
        if word == "equal":
            return equal(one, two)
        return integers and one < two

    def block(self, block):
        for statement in block:
            self.statement(statement)

    def statement(self, s):
        word = s[0]
        if self.mode == "read" and word not in READ_ONLY or word == "atomic" and self.mode != "transaction":
            raise Failure("not allowed here")
        getattr(self, "do_" + word)(*s[1:])

    def do_let(self, x, e):
        self.variables[x] = self.value(e)

    def do_if(self, e, one, two):
        self.block(two if empty(self.value(e)) else one)

    def do_each(self, y, x, block):
        for key in self.read(("keys", self.find(x, ["store"])))[1]:
            self.variables[y] = key
            self.block(block)

    def do_try(self, one, y, two):
        try:
            self.block(one)
        except Failure as failure:
            self.variables[y] = failure.message[:40]
            self.block(two)

    def do_raise(self, e):
        raise Failure("error " + text(self.value(e)))

    def do_return(self, e):
        raise Returned(self.value(e))

    def do_emit(self, e):
        value = self.value(e)
        self.model.must_be_active(self.me)
        self.model.output.append(value)

    def do_write(self, x, e):
        value = self.value(e)
        self.model.change("write", self.find(x, ["signal"]), None, value)

    def do_put(self, x, e, f):
        key, value = self.value(e), self.value(f)
        store = self.find(x, ["store"])
        if not is_key(key):
            raise Failure("not a key")
        self.model.change("put", store, key, value)

    def do_remove(self, x, e):
        key = self.value(e)
        store = self.find(x, ["store"])
        if not is_key(key):
            raise Failure("not a key")
        self.model.change("remove", store, key, None)

    def do_reset(self, x):
        self.model.change("write", self.find(x, ["boundary"]), None, None)

    def do_dispose(self, x):
        number = self.find(x, DISPOSABLE)
        if number == 0:
            raise Failure("root stays")
        if self.mode == "effect" and (number == self.me or number in self.model.owners(self.me)):
            raise Failure("running")
        self.model.dispose(number)

    def do_cleanup(self, e):
        value = self.value(e)
        self.model.must_be_active(self.me)
        self.model.node(self.me)["cleanups"].append(value)

    def make(self, y, kind, **more):
        self.variables[y] = ("node", self.model.make(kind, self.me, **more))

    def do_signal(self, y, e):
        self.make(y, "signal", value=self.value(e))

    def do_store(self, y, pairs):
        self.make(y, "store", pairs=[[key, self.value(e)] for key, e in pairs])

    def do_scope(self, y):
        self.make(y, "scope")

    def do_boundary(self, y):
        self.make(y, "boundary")

    def do_computed(self, y, program):
        self.make(y, "computed", program=program, setting=self.variables)

    def do_effect(self, y, program):
        self.make(y, "effect", program=program, setting=self.variables)

    def do_resource(self, y, program):
        self.make(y, "resource", program=program, setting=self.variables)

    def do_keyed(self, y, x, z, program):
        store = self.find(x, ["store"])
        self.make(y, "keyed", program=program, setting=self.variables, store=store, name=z)

    def do_atomic(self, one, y, two):
        model = self.model
        before = copy.deepcopy((model.world, model.output, model.made, self.variables))
        try:
            self.block(one)
        except Failure as failure:
            model.world, model.output, model.made, self.variables = before
            self.variables[y] = failure.message[:40]
            self.block(two)


class Model:
    def __init__(self, plain):
        self.plain = plain
        self.world = {"nodes": [], "contexts": [], "delivered": [], "requests": [], "watches": [], "answers": []}
        self.history = []
        self.executed = []
        self.kinds = []
        self.output = []
        self.made = 0
        self.deferred = None
        self.add("scope", None)

    # The world.

    def node(self, number):
        return self.world["nodes"][number]

    def numbers(self):
        return range(len(self.world["nodes"]))

    def owners(self, number):
        """The owner, the owner of the owner, and so on."""
        found = []
        while self.node(number)["owner"] is not None:
            number = self.node(number)["owner"]
            found.append(number)
        return found

    def must_be_active(self, number):
        if not self.node(number)["active"]:
            raise Failure("disposed")

    def add(self, kind, owner, value=None, pairs=(), program=None, setting=None, store=None, name=None):
        self.world["nodes"].append(copy.deepcopy({
            "kind": kind, "owner": owner, "active": True, "value": value, "pairs": [list(pair) for pair in pairs],
            "program": program if isinstance(program, Program) else Program(program), "setting": setting,
            "store": store, "name": name, "cleanups": [], "provided": {}, "recorded": None, "result": None,
            "latest": None, "members": {}}))
        return len(self.world["nodes"]) - 1

    def make(self, kind, owner, **more):
        self.must_be_active(owner)
        if len([number for number in self.numbers() if self.node(number)["active"]]) >= 24 or self.made >= 20:
            raise Failure("too many nodes")
        self.made += 1
        return self.add(kind, owner, **more)

    def context_value(self, number, context):
        for provider in [number] + self.owners(number):
            if context in self.node(provider)["provided"]:
                return self.node(provider)["provided"][context]
        return self.world["contexts"][context]

    def dispose_descendants(self, number):
        for other in reversed(self.numbers()):
            if number in self.owners(other) and self.node(other)["active"]:
                self.put_out_cleanups(other)
                self.node(other)["active"] = False

    def dispose(self, number):
        if self.node(number)["active"]:
            self.dispose_descendants(number)
            self.put_out_cleanups(number)
            self.node(number)["active"] = False

    def put_out_cleanups(self, number):
        while self.node(number)["cleanups"]:
            self.output.append(self.node(number)["cleanups"].pop())

    def change(self, word, number, key, value):
        self.must_be_active(number)
        if self.deferred is not None:
            self.deferred.append((word, number, key, value))
        else:
            self.change_now(word, number, key, value)

    def change_now(self, word, number, key, value):
        node = self.node(number)
        if word == "write":
            node["value"] = value
        elif word == "remove":
            node["pairs"] = [pair for pair in node["pairs"] if pair[0] != key]
        elif key in [pair[0] for pair in node["pairs"]]:
            for pair in node["pairs"]:
                if pair[0] == key:
                    pair[1] = value
        else:
            node["pairs"].append([key, value])

    # Reading.

    def look(self, source):
        node = self.node(source[1])
        if not node["active"]:
            return ("error", "disposed")
        word = source[0]
        pairs = dict(map(tuple, node["pairs"]))
        if word == "keys":
            return ("keys", tuple(pairs))
        if word == "has":
            return ("value", source[2] in pairs)
        if word == "get":
            return ("value", pairs[source[2]]) if source[2] in pairs else ("absent",)
        if node["kind"] in ("signal", "boundary"):
            return ("value", node["value"])
        key = self.computed_reading(source[1])
        if node["kind"] == "computed":
            return key
        state, value = self.resource_reading(source[1], key)
        return value if word == "value" else ("value", state)

    def resource_reading(self, number, key):
        if key[0] == "error":
            return "failed", key
        if key[1] is None:
            return "idle", key
        latest = self.node(number)["latest"]
        if latest is not None:
            request = self.world["requests"][latest]
            if equal(request["key"], key[1]) and request["answer"] is not None:
                return ("ready" if request["answer"][0] == "value" else "failed"), request["answer"]
        return "pending", ("value", None)

    def why(self, recorded):
        """The cause of an execution, or None."""
        if recorded is None:
            return ("first",)
        for source, old in recorded:
            new = self.look(source)
            if not same(old, new):
                return ("changed", source, old, new)
        return None

    def computed_reading(self, number):
        node = self.node(number)
        cause = ("first",) if self.plain else self.why(node["recorded"])
        if cause is None:
            return node["result"]
        if not self.plain:
            self.executed.append((number, cause))
            self.kinds.append(node["kind"])
        execution = Execution(self, "read", number, node["setting"])
        try:
            result = ("value", execution.run(node["program"].statements))
        except Failure as failure:
            result = ("error", failure.message)
        if not self.plain:
            node["recorded"], node["result"] = execution.reads, result
        return result

    # Propagation.

    def propagate(self):
        for _ in range(10):
            if not self.run_pass(False):
                return
        self.run_pass(True)

    def run_pass(self, last):
        self.deferred = []
        something = False
        number = 0
        while number < len(self.world["nodes"]):
            if self.node(number)["active"] and self.node(number)["kind"] in ("effect", "keyed"):
                cause = self.why(self.node(number)["recorded"])
                if cause is not None:
                    if last:
                        raise Failure("did not settle")
                    something = True
                    self.executed.append((number, cause))
                    self.kinds.append(self.node(number)["kind"])
                    self.guard(number)
            number += 1
        deferred, self.deferred = self.deferred, None
        for word, number, key, value in deferred:
            if self.node(number)["active"]:
                self.change_now(word, number, key, value)
        return something

    def guard(self, number):
        """Execute an effect or a keyed effect, and deal with its error."""
        before = copy.deepcopy((self.world, self.output, self.deferred))
        try:
            if self.node(number)["kind"] == "effect":
                self.execute_effect(number)
            else:
                self.execute_keyed(number)
        except Failure as failure:
            boundaries = [owner for owner in self.owners(number) if self.node(owner)["kind"] == "boundary"]
            if not boundaries:
                raise
            made = self.world["nodes"][len(before[0]["nodes"]):]
            self.world, self.output, self.deferred = before
            for node in made:
                self.node(self.add(node["kind"], node["owner"]))["active"] = False
            self.dispose_descendants(boundaries[0])
            self.deferred.append(("write", boundaries[0], None, failure.message[:40]))

    def execute_effect(self, number):
        self.dispose_descendants(number)
        self.put_out_cleanups(number)
        execution = Execution(self, "effect", number, self.node(number)["setting"])
        execution.run(self.node(number)["program"].statements)
        self.node(number)["recorded"] = execution.reads

    def execute_keyed(self, number):
        node = self.node(number)
        reading = self.look(("keys", node["store"]))
        if reading[0] == "error":
            raise Failure(reading[1])
        members = node["members"]
        for child in sorted([members[key] for key in members if key not in reading[1]], reverse=True):
            self.dispose(child)
        for key in [key for key in members if key not in reading[1]]:
            del members[key]
        for key in reading[1]:
            if key not in members or not self.node(members[key])["active"]:
                setting = copy.deepcopy(node["setting"])
                setting[node["name"]] = key
                members[key] = self.make("effect", number, program=node["program"], setting=setting)
        node["recorded"] = [(("keys", node["store"]), reading)]

    # Transactions.

    def commit(self, action):
        before = copy.deepcopy(self.world)
        self.output, self.made, self.deferred = [], 0, None
        try:
            result = action()
            self.propagate()
        except Failure:
            self.world, self.deferred = before, None
            raise
        for number in self.numbers():
            if self.node(number)["kind"] == "resource" and self.node(number)["active"]:
                self.request(number)
        self.world["delivered"].extend(self.output)
        for at in range(len(self.world["watches"])):
            self.serve(at)
        self.keep(before)
        return result

    def keep(self, before):
        self.history = (self.history + [before])[-16:]

    def request(self, number):
        key = self.computed_reading(number)
        latest = self.node(number)["latest"]
        if key[0] == "value" and key[1] is not None:
            if latest is None or not equal(self.world["requests"][latest]["key"], key[1]):
                self.node(number)["latest"] = len(self.world["requests"])
                self.world["requests"].append({"node": number, "key": key[1], "answer": None})

    def serve(self, at):
        watch = self.world["watches"][at]
        if not watch["waiting"]:
            return
        if not self.node(watch["node"])["active"]:
            self.shut(watch)
            return
        reading = self.look(("value", watch["node"]))
        if not same(reading, watch["last"]):
            watch["last"] = reading
            self.world["answers"][watch["waiting"].pop(0)] = reading

    def shut(self, watch):
        watch["closed"] = True
        for pull in watch["waiting"]:
            self.world["answers"][pull] = ("end",)
        watch["waiting"] = []

    # The calls.

    def started(self):
        self.executed = []
        self.kinds = []

    def in_program(self, owner, statement, setting):
        execution = Execution(self, "transaction", owner, setting)
        return lambda: execution.run([statement])

    def making(self, kind, owner, **more):
        self.started()
        return self.commit(lambda: self.make(kind, owner, **more))

    def signal(self, owner, value):
        return self.making("signal", owner, value=value)

    def store(self, owner, pairs):
        return self.making("store", owner, pairs=pairs)

    def scope(self, owner):
        return self.making("scope", owner)

    def boundary(self, owner):
        return self.making("boundary", owner)

    def computed(self, owner, program, setting):
        return self.making("computed", owner, program=program, setting=setting)

    def effect(self, owner, program, setting):
        return self.making("effect", owner, program=program, setting=setting)

    def resource(self, owner, program, setting):
        return self.making("resource", owner, program=program, setting=setting)

    def keyed(self, owner, store, name, program, setting):
        return self.making("keyed", owner, program=program, setting=setting, store=store, name=name)

    def context(self, default):
        self.keep(copy.deepcopy(self.world))
        self.world["contexts"].append(default)
        return len(self.world["contexts"]) - 1

    def provide(self, node, context, value):
        self.must_be_active(node)
        if any(self.node(number)["owner"] == node for number in self.numbers()):
            raise Failure("too late")
        self.keep(copy.deepcopy(self.world))
        self.node(node)["provided"][context] = value

    def use(self, node, context):
        self.must_be_active(node)
        return self.context_value(node, context)

    def doing(self, owner, statement, **numbers):
        self.started()
        self.commit(self.in_program(owner, statement, {name: ("node", number) for name, number in numbers.items()}))

    def emit(self, node, value):
        self.doing(node, ("emit", ("value", value)))

    def cleanup(self, node, value):
        self.doing(node, ("cleanup", ("value", value)))

    def dispose_call(self, node):
        self.doing(0, ("dispose", "x"), x=node)

    def write(self, node, value):
        self.doing(0, ("write", "x", ("value", value)), x=node)

    def put(self, node, key, value):
        self.doing(0, ("put", "x", ("value", key), ("value", value)), x=node)

    def remove(self, node, key):
        self.doing(0, ("remove", "x", ("value", key)), x=node)

    def reset(self, node):
        self.doing(0, ("reset", "x"), x=node)

    def raised(self, source):
        self.started()
        reading = self.look(source)
        if reading[0] == "error":
            raise Failure(reading[1])
        return None if reading[0] == "absent" else reading[1]

    def read(self, node):
        return self.raised(("value", node))

    def state(self, node):
        return self.raised(("state", node))

    def get(self, node, key):
        return self.raised(("get", node, key))

    def has(self, node, key):
        return self.raised(("has", node, key))

    def keys(self, node):
        return list(self.raised(("keys", node)))

    def reading(self, source):
        self.started()
        return self.look(source)

    def is_disposed(self, node):
        return not self.node(node)["active"]

    def transaction(self, node, program, setting):
        self.started()
        execution = Execution(self, "transaction", node, setting)
        return self.commit(lambda: execution.run(program))

    def respond(self, request, value):
        return self.concluded(request, ("value", value))

    def reject(self, request, message):
        return self.concluded(request, ("error", message))

    def concluded(self, request, answer):
        self.started()
        asked = self.world["requests"][request]
        node = self.node(asked["node"])
        if node["latest"] != request or asked["answer"] is not None or not node["active"]:
            return False
        self.commit(lambda: self.world["requests"][request].update(answer=answer))
        return True

    def subscribe(self, node):
        self.keep(copy.deepcopy(self.world))
        self.world["watches"].append({"node": node, "last": None, "waiting": [], "closed": False, "pulls": []})
        return len(self.world["watches"]) - 1

    def pull(self, subscription):
        self.started()
        self.keep(copy.deepcopy(self.world))
        watch = self.world["watches"][subscription]
        pull = len(self.world["answers"])
        self.world["answers"].append(None)
        watch["pulls"].append(pull)
        if watch["closed"]:
            self.world["answers"][pull] = ("end",)
        elif watch["waiting"]:
            watch["waiting"].append(pull)
        elif not self.node(watch["node"])["active"]:
            watch["closed"] = True
            self.world["answers"][pull] = ("end",)
        else:
            reading = self.look(("value", watch["node"]))
            if watch["last"] is None or not same(reading, watch["last"]):
                watch["last"] = self.world["answers"][pull] = reading
            else:
                watch["waiting"].append(pull)
        return pull

    def close(self, subscription):
        self.keep(copy.deepcopy(self.world))
        self.shut(self.world["watches"][subscription])

    def answer(self, pull):
        return self.world["answers"][pull]

    def undo(self):
        self.started()
        if not self.history:
            return False
        self.world = self.history.pop()
        return True

    def delivered(self):
        return list(self.world["delivered"])

    def requests(self):
        return [request["key"] for request in self.world["requests"]]

    def runs(self):
        return list(self.executed)

    def runs_of_effects(self):
        """Numbers can be used twice in a call, so the kinds are those of the time of the execution."""
        return [run for run, kind in zip(self.executed, self.kinds) if kind in ("effect", "keyed")]

    def dependencies(self, node):
        recorded = self.node(node)["recorded"]
        return None if recorded is None else list(recorded)

    def nodes(self):
        return [(node["kind"], node["owner"], node["active"]) for node in self.world["nodes"]]
