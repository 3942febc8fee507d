"""Values and keys: what they are, when they are equal, and their texts."""

GREATEST_NUMBER = 999
LONGEST_TEXT = 40
LONGEST_KEY = 8


# The two tests below ask for the exact kind of a thing: an object of a
# subclass may answer len and comparisons in any way, or raise an error.


def is_value(thing):
    """Tell whether anything that is passed is a value."""
    if thing is None or thing is False or thing is True:
        return True
    if type(thing) == int:
        return 0 <= thing <= GREATEST_NUMBER
    return type(thing) == str and len(thing) <= LONGEST_TEXT


def is_key(thing):
    """Tell whether anything that is passed is a key."""
    if type(thing) != str or not 1 <= len(thing) <= LONGEST_KEY:
        return False
    return all(["a" <= letter <= "z" for letter in thing])


def equal(one, two):
    """Tell whether two values are of the same kind and equal."""
    # Python takes True for 1 and False for 0.
    return isinstance(one, bool) == isinstance(two, bool) and one == two


def text_of(value):
    """Return the text of a value."""
    if value is None:
        return "none"
    if value is False:
        return "false"
    if value is True:
        return "true"
    return str(value)


def cut(text):
    """Return a text without what is too long for a value."""
    return text[:LONGEST_TEXT]


def is_empty(value):
    """Tell whether a value is empty: None, False, 0 or the empty string."""
    return not value
