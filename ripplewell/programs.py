"""Programs: which things are programs, and copies of them that nobody can change."""

from ripplewell.values import is_key, is_value

MOST_STATEMENTS = 200
MOST_PAIRS = 8
DEEPEST = 5

# What stands behind the word of each expression and of each statement.
EXPRESSIONS = {
    "value": ("value",),
    "var": ("name",),
    "read": ("name",),
    "peek": ("name",),
    "state": ("name",),
    "get": ("name", "expression"),
    "has": ("name", "expression"),
    "size": ("name",),
    "use": ("name",),
    "add": ("expression", "expression"),
    "join": ("expression", "expression"),
    "equal": ("expression", "expression"),
    "less": ("expression", "expression"),
    "not": ("expression",),
}
STATEMENTS = {
    "let": ("name", "expression"),
    "if": ("expression", "block", "block"),
    "each": ("name", "name", "block"),
    "try": ("block", "name", "block"),
    "raise": ("expression",),
    "return": ("expression",),
    "emit": ("expression",),
    "write": ("name", "expression"),
    "put": ("name", "expression", "expression"),
    "remove": ("name", "expression"),
    "reset": ("name",),
    "dispose": ("name",),
    "cleanup": ("expression",),
    "signal": ("name", "expression"),
    "store": ("name", "pairs"),
    "scope": ("name",),
    "boundary": ("name",),
    "computed": ("name", "block"),
    "effect": ("name", "block"),
    "resource": ("name", "block"),
    "keyed": ("name", "name", "name", "block"),
    "atomic": ("block", "name", "block"),
}


def is_program(thing):
    """Tell whether anything that is passed is a program."""
    return size_of_block(thing, 1) is not None


def size_of_block(thing, depth):
    """Return how many statements a block of this depth has, or None if the thing is none."""
    if type(thing) != list or (thing and depth > DEEPEST):
        return None
    total = 0
    for statement in thing:
        size = size_of_statement(statement, depth)
        # To stop here keeps short what contains the same block many times.
        if size is None or total + size > MOST_STATEMENTS:
            return None
        total += size
    return total


def size_of_statement(thing, depth):
    """Return how many statements a statement of this depth is, or None if the thing is none."""
    form = STATEMENTS.get(thing[0]) if has_word(thing) else None
    if form is None or len(thing) != len(form) + 1:
        return None
    total = 1
    for kind, part in zip(form, thing[1:]):
        if kind == "block":
            size = size_of_block(part, depth + 1)
            if size is None:
                return None
            total += size
        elif not is_part(kind, part, 1):
            return None
    return total


def has_word(thing):
    """Tell whether a thing is a tuple that begins with a string."""
    return type(thing) == tuple and len(thing) > 0 and type(thing[0]) == str


def is_part(kind, thing, depth):
    """Tell whether a thing is a part of this kind, which is no block."""
    if kind == "name":
        return is_key(thing)
    if kind == "value":
        return is_value(thing)
    if kind == "pairs":
        return are_pairs(thing)
    return is_expression(thing, depth)


def is_expression(thing, depth):
    """Tell whether a thing is an expression that may stand at this depth."""
    form = EXPRESSIONS.get(thing[0]) if has_word(thing) else None
    if form is None or len(thing) != len(form) + 1 or depth > DEEPEST:
        return False
    return all([is_part(kind, part, depth + 1) for kind, part in zip(form, thing[1:])])


def are_pairs(thing):
    """Tell whether a thing is a list of pairs of different keys and expressions."""
    return are_keyed_pairs(thing) and all([is_expression(part, 1) for key, part in thing])


def are_keyed_pairs(thing):
    """Tell whether a thing is a list of at most 8 pairs, each of a key that no other has and anything."""
    if type(thing) != list or len(thing) > MOST_PAIRS:
        return False
    seen = set()
    for pair in thing:
        if type(pair) != tuple or len(pair) != 2 or not is_key(pair[0]):
            return False
        seen.add(pair[0])
    return len(seen) == len(thing)


def frozen(thing):
    """Return a program, or a part of one, with tuples for all lists."""
    if type(thing) != list and type(thing) != tuple:
        return thing
    return tuple([frozen(part) for part in thing])
