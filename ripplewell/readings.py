"""Readings: what the runtime has when something is read."""

from ripplewell.values import equal

ABSENT = ("absent",)
DISPOSED = ("error", "disposed")


def same(one, two):
    """Tell whether two readings are equal."""
    if one[0] != two[0]:
        return False
    if one[0] == "value":
        return equal(one[1], two[1])
    return one == two
