"""Long rows of many different calls, made by chance from a seed."""

import random

LETTERS = "abcdefgh"
VALUES = [None, False, True, 0, 1, 2, 3, 999, "", "a", "b", "c", "ab", "A", "x" * 40]
PREFIXES = {"signal": "s", "store": "p", "computed": "c", "resource": "r", "boundary": "b", "scope": "z", "effect": "e",
            "keyed": "k"}
READABLE = ("signal", "boundary", "computed", "resource")
DISPOSABLE = ("scope", "boundary", "effect", "keyed", "resource")
KEEPERS = ("scope", "boundary")


class Chance:
    """Makes expressions, programs, settings and calls. kinds are the kinds of the variables of a program."""

    def __init__(self, seed):
        self.random = random.Random(seed)
        self.mode = "transaction"

    def pick(self, things):
        return self.random.choice(list(things))

    def often(self, share):
        return self.random.random() < share

    def value(self):
        return self.pick(VALUES) if self.often(0.5) else self.pick([0, 1, 2, "a", "b"])

    def key(self):
        return self.pick("abc") if self.often(0.95) else self.pick(["A", "", 1, None, "abcdefgh"])

    # Variables, expressions and programs.

    def variable(self, names, kinds):
        """The name of a variable that mostly is a node of one of the kinds, or a value, or a context."""
        fitting = [name for name in names if names[name] in kinds]
        if fitting and self.often(0.96):
            return self.pick(fitting)
        if names and self.often(0.5):
            return self.pick(names)
        return "missing"

    def fitting(self, names, kinds):
        return any(names[name] in kinds for name in names)

    def may_peek(self):
        return self.mode != "read" or self.often(0.02)

    def expression(self, names, depth=1):
        choices = ["value"] * 3
        if self.fitting(names, ["value"]):
            choices += ["var"] * 2
        if self.fitting(names, READABLE):
            choices += ["read"] * 5 + (["peek"] if self.may_peek() else [])
        if self.fitting(names, ["resource"]):
            choices += ["state"]
        if self.fitting(names, ["store"]):
            choices += ["get", "get", "has", "size"]
        if self.fitting(names, ["context"]) and self.may_peek():
            choices += ["use"]
        if depth < 4:
            choices += ["add", "add", "join", "equal", "less", "not"]
        if self.often(0.02):
            choices = ["var", "read", "peek", "state", "get", "has", "size", "use"]
        word = self.pick(choices)
        if word == "value":
            return ("value", self.value())
        if word == "var":
            return ("var", self.variable(names, ["value"]))
        if word in ("read", "peek"):
            return (word, self.variable(names, READABLE))
        if word == "state":
            return (word, self.variable(names, ["resource"]))
        if word in ("get", "has"):
            key = ("value", self.key()) if self.often(0.8) or depth > 3 else self.expression(names, depth + 1)
            return (word, self.variable(names, ["store"]), key)
        if word == "size":
            return (word, self.variable(names, ["store"]))
        if word == "use":
            return (word, self.variable(names, ["context"]))
        if word == "not":
            return (word, self.expression(names, depth + 1))
        return (word, self.expression(names, depth + 1), self.expression(names, depth + 1))

    def block(self, names, mode, depth, most=3):
        names, outer, self.mode = dict(names), self.mode, mode
        many = self.random.randint(0 if depth > 1 else 1, most)
        block = [self.statement(names, mode, depth) for _ in range(many)]
        self.mode = outer
        return block

    def statement(self, names, mode, depth):
        """A statement; a variable that it gives something to is added to the names."""
        choices = ["let", "if", "if", "try"]
        if self.fitting(names, ["store"]):
            choices += ["each"]
        if mode == "read":
            choices += ["return"] * 5 + ["raise"]
            if self.often(0.05):
                choices = ["emit", "write", "atomic", "signal", "dispose"]
        else:
            choices += ["emit"] * 5 + ["cleanup", "signal", "store", "scope", "boundary", "computed", "computed",
                                       "effect", "effect", "resource", "keyed", "raise"]
            for kinds, words in ((["signal"], ["write"] * 4), (["store"], ["put", "put", "remove"]),
                                 (["boundary"], ["reset"]), (DISPOSABLE, ["dispose", "dispose"])):
                if self.fitting(names, kinds):
                    choices += words
            if mode == "transaction" or self.often(0.02):
                choices += ["atomic"] * 3 + ["return"]
        word = self.pick(choices)
        if depth >= 4 and word in ("if", "each", "try", "atomic", "computed", "effect", "resource", "keyed"):
            word = "let"
        return getattr(self, "make_" + word)(names, mode, depth)

    def named(self, names, kind, prefix):
        name = prefix + self.pick("yz")
        names[name] = kind
        return name

    def make_let(self, names, mode, depth):
        e = self.expression(names)
        return ("let", self.named(names, "value", "v"), e)

    def make_if(self, names, mode, depth):
        return ("if", self.expression(names), self.block(names, mode, depth + 1), self.block(names, mode, depth + 1))

    def make_each(self, names, mode, depth):
        store = self.variable(names, ["store"])
        name = self.named(names, "value", "v")
        return ("each", name, store, self.block(names, mode, depth + 1, 2))

    def make_try(self, names, mode, depth):
        one = self.block(names, mode, depth + 1)
        return ("try", one, self.named(names, "value", "v"), self.block(names, mode, depth + 1))

    def make_atomic(self, names, mode, depth):
        one = self.block(names, mode, depth + 1)
        if self.often(0.5):
            one.append(("raise", self.expression(names)))
        return ("atomic", one, self.named(names, "value", "v"), self.block(names, mode, depth + 1))

    def make_raise(self, names, mode, depth):
        if self.often(0.6):
            return ("if", self.expression(names), [("raise", self.expression(names))] if depth < 5 else [], [])
        return ("raise", self.expression(names))

    def make_return(self, names, mode, depth):
        return ("return", self.expression(names))

    def make_emit(self, names, mode, depth):
        return ("emit", self.expression(names))

    def make_write(self, names, mode, depth):
        return ("write", self.variable(names, ["signal"]), self.expression(names))

    def make_put(self, names, mode, depth):
        return ("put", self.variable(names, ["store"]), ("value", self.key()), self.expression(names))

    def make_remove(self, names, mode, depth):
        return ("remove", self.variable(names, ["store"]), ("value", self.key()))

    def make_reset(self, names, mode, depth):
        return ("reset", self.variable(names, ["boundary"]))

    def make_dispose(self, names, mode, depth):
        return ("dispose", self.variable(names, DISPOSABLE))

    def make_cleanup(self, names, mode, depth):
        return ("cleanup", self.expression(names))

    def make_signal(self, names, mode, depth):
        e = self.expression(names)
        return ("signal", self.named(names, "signal", "s"), e)

    def make_store(self, names, mode, depth):
        keys = self.random.sample("abcd", self.random.randint(0, 3))
        pairs = [(key, self.expression(names)) for key in keys]
        return ("store", self.named(names, "store", "p"), pairs)

    def make_scope(self, names, mode, depth):
        return ("scope", self.named(names, "scope", "z"))

    def make_boundary(self, names, mode, depth):
        return ("boundary", self.named(names, "boundary", "b"))

    def make_computed(self, names, mode, depth):
        program = self.block(names, "read", depth + 1)
        return ("computed", self.named(names, "computed", "c"), program)

    def make_resource(self, names, mode, depth):
        program = self.block(names, "read", depth + 1)
        return ("resource", self.named(names, "resource", "r"), program)

    def make_effect(self, names, mode, depth):
        program = self.block(names, "effect", depth + 1)
        return ("effect", self.named(names, "effect", "e"), program)

    def make_keyed(self, names, mode, depth):
        store = self.variable(names, ["store"])
        program = self.block(dict(names, vk="value"), "effect", depth + 1, 2)
        return ("keyed", self.named(names, "keyed", "k"), store, "vk", program)

    def setting(self, nodes, contexts):
        """A setting, and the kinds of its variables."""
        setting, names = {}, {}
        numbers = list(range(len(nodes)))
        # Mostly nodes that are active, so that programs have something to do.
        numbers = [number for number in numbers if self.often(0.97 if nodes[number][2] and number > 0 else 0.07)]
        for number in self.random.sample(numbers, min(len(numbers), 7)):
            kind = nodes[number][0]
            name = PREFIXES[kind] + self.pick(LETTERS)
            setting[name], names[name] = ("node", number), kind
        for context in range(contexts):
            if self.often(0.4):
                name = "x" + self.pick("ab")
                setting[name], names[name] = ("context", context), "context"
        if self.often(0.6):
            setting["va"], names["va"] = self.value(), "value"
        return setting, names

    # Calls.

    def number(self, nodes, kinds):
        fitting = [number for number, entry in enumerate(nodes) if entry[0] in kinds]
        active = [number for number in fitting if nodes[number][2]]
        if active and self.often(0.95):
            return self.pick(active)
        return self.pick(fitting) if fitting else None

    def call(self, runtime):
        """A method and its arguments, with numbers of nodes of the right kinds; runtime tells which there are."""
        while True:
            method = self.pick(CALLS)
            arguments = getattr(self, "call_" + SHAPES[method])(method, runtime)
            if arguments is not None and None not in arguments[:NUMBERS.get(method, 0)]:
                return method, arguments

    def call_made(self, method, runtime):
        owner = self.number(runtime.nodes(), KEEPERS)
        if method == "signal":
            return [owner, self.value()]
        if method == "store":
            keys = self.random.sample("abcd", self.random.randint(0, 4))
            return [owner, [(key, self.value()) for key in keys]]
        return [owner]

    def call_program(self, method, runtime):
        nodes = runtime.nodes()
        setting, names = self.setting(nodes, self.contexts(runtime))
        mode = {"computed": "read", "resource": "read", "effect": "effect", "transaction": "transaction"}[method]
        return [self.number(nodes, KEEPERS), self.block(names, mode, 1, 4), setting]

    def call_keyed(self, method, runtime):
        nodes = runtime.nodes()
        setting, names = self.setting(nodes, self.contexts(runtime))
        program = self.block(dict(names, vk="value"), "effect", 1, 3)
        return [self.number(nodes, KEEPERS), self.number(nodes, ["store"]), "vk", program, setting]

    def contexts(self, runtime):
        return self.count(lambda at: runtime.use(0, at))

    def count(self, ask):
        many = 0
        while True:
            try:
                ask(many)
            except ValueError:
                return many
            many += 1

    def call_context(self, method, runtime):
        if method == "context":
            return [self.value()]
        contexts = self.contexts(runtime)
        if not contexts:
            return None
        nodes = runtime.nodes()
        node = self.number(nodes, KEEPERS)
        fresh = [number for number, entry in enumerate(nodes) if entry[0] in KEEPERS and entry[2]
                 and not any(other[1] == number for other in nodes)]
        if fresh and self.often(0.7):
            node = self.pick(fresh)
        return [node, self.pick(range(contexts))] + ([self.value()] if method == "provide" else [])

    def call_change(self, method, runtime):
        nodes = runtime.nodes()
        kinds = {"emit": KEEPERS, "cleanup": KEEPERS, "dispose": DISPOSABLE, "write": ["signal"], "put": ["store"],
                 "remove": ["store"], "reset": ["boundary"]}[method]
        arguments = [self.number(nodes, kinds)]
        if method in ("put", "remove"):
            arguments.append(self.pick("abcd"))
        if method in ("emit", "cleanup", "write", "put"):
            arguments.append(self.value())
        return arguments

    def call_read(self, method, runtime):
        nodes = runtime.nodes()
        kinds = {"read": READABLE, "state": ["resource"], "get": ["store"], "has": ["store"], "keys": ["store"],
                 "subscribe": READABLE}[method]
        return [self.number(nodes, kinds)] + ([self.pick("abcd")] if method in ("get", "has") else [])

    def call_respond(self, method, runtime):
        asked = len(runtime.requests())
        if not asked:
            return None
        request = asked - 1 - min(asked - 1, self.random.choice([0, 0, 0, 1, 1, 2, 3]))
        return [request, self.value() if method == "respond" else self.pick(["", "no", "x" * 40])]

    def call_pull(self, method, runtime):
        many = getattr(runtime, "subscriptions", 0)
        return [self.pick(range(many))] if many else None

    def call_undo(self, method, runtime):
        return []


SHAPES = {
    "signal": "made", "store": "made", "scope": "made", "boundary": "made", "computed": "program",
    "effect": "program", "resource": "program", "transaction": "program", "keyed": "keyed", "context": "context",
    "provide": "context", "use": "context", "emit": "change", "cleanup": "change", "dispose": "change",
    "write": "change", "put": "change", "remove": "change", "reset": "change", "read": "read", "state": "read",
    "get": "read", "has": "read", "keys": "read", "subscribe": "read", "respond": "respond", "reject": "respond",
    "pull": "pull", "close": "pull", "undo": "undo",
}

# How many of the first arguments are numbers of nodes.
NUMBERS = {"keyed": 2, "context": 0, "respond": 0, "reject": 0, "pull": 0, "close": 0, "undo": 0}
NUMBERS.update({method: 1 for method in SHAPES if method not in NUMBERS})

WEIGHTS = {
    "signal": 3, "store": 3, "scope": 2, "boundary": 3, "computed": 5, "effect": 7, "resource": 3, "keyed": 4,
    "transaction": 10, "write": 10, "put": 6, "remove": 3, "dispose": 3, "read": 6, "respond": 4, "reject": 1,
    "subscribe": 2, "pull": 6, "undo": 2,
}
CALLS = [method for method in SHAPES for _ in range(WEIGHTS.get(method, 1))]
