"""Simple statements, each in one form: those over one sum, and ("not", ..) of nought and goes.

In that form shares have no common divisor that could be taken out, so that statements which say
the same about the same unknowns are mostly equal; without unknowns they are TRUE or FALSE.
"""

from math import gcd

from somenumber.rests import inverse
from somenumber.sums import added, share, times, without

TRUE = ("and", ())
FALSE = ("or", ())


def above(one):
    """Tell the form of ("above", one)."""
    number, parts = one
    if not parts:
        return TRUE if number > 0 else FALSE
    by = common_share(parts, 0)
    # Rounded up, since what is left of the sum changes by whole numbers alone.
    return ("above", (-(-number // by), tuple([(name, many // by) for name, many in parts])))


def nought(one):
    """Tell the form of ("nought", one)."""
    number, parts = one
    if not parts:
        return TRUE if number == 0 else FALSE
    by = common_share(parts, 0)
    if number % by != 0:
        return FALSE
    if parts[0][1] < 0:
        by = -by
    return ("nought", (number // by, tuple([(name, many // by) for name, many in parts])))


def goes(divisor, one):
    """Tell the form of ("goes", divisor, one)."""
    # No statement has a divisor below 1, but numbers beyond a limit must not raise an error.
    divisor = abs(divisor)
    if divisor == 0:
        return nought(one)
    number, parts = one
    by = common_share(parts, divisor)
    if number % by != 0:
        return FALSE
    divisor = divisor // by
    if divisor == 1:
        return TRUE
    small = [(name, many // by % divisor) for name, many in parts]
    small = [(name, many) for name, many in small if many != 0]
    factor = _factor(divisor, small)
    parts = tuple([(name, many * factor % divisor) for name, many in small])
    return ("goes", divisor, (number // by * factor % divisor, parts))


def simple(statement):
    """Tell the form of a statement over a sum."""
    if statement[0] == "above":
        return above(statement[1])
    if statement[0] == "nought":
        return nought(statement[1])
    return goes(statement[1], statement[2])


def contrary(one):
    """Tell the form of the contrary of a simple statement in its form."""
    kind = one[0]
    if kind == "not":
        return one[1]
    number, parts = one[-1]
    if kind == "above":
        return (kind, (1 - number, turned(parts)))
    # There are just two rests, so goes itself tells of the other one.
    if kind == "goes" and one[1] == 2:
        return (kind, 2, (1 - number, parts))
    return ("not", one)


def about(one):
    """Tell the kind of a simple statement, or of that of which it is the contrary."""
    return one[1][0] if one[0] == "not" else one[0]


def sum_of(one):
    """Tell the sum of a simple statement."""
    if one[0] == "not":
        return one[1][-1]
    return one[-1]


def put_simply(one, name, by, other):
    """Tell the form of a simple statement with a sum, divided by a number, in an unknown's place.

    The number is 1 or more; it counts only under values under which it goes into the sum.
    """
    if one[0] == "not":
        changed = put_simply(one[1], name, by, other)
        if changed == TRUE:
            return FALSE
        if changed == FALSE:
            return TRUE
        return contrary(changed)
    before = one[-1]
    many = share(before, name)
    if many == 0:
        return one
    after = added(times(many, other), times(by, without(before, name)))
    if one[0] == "goes":
        return goes(one[1] * by, after)
    return simple((one[0], after))


def turned(parts):
    """Tell the parts of a sum with the opposite shares."""
    return tuple([(name, -many) for name, many in parts])


def common_share(parts, number):
    """Tell the greatest number that goes into all shares and a number."""
    for _, many in parts:
        number = gcd(number, many)
    return number


def _factor(divisor, parts):
    """Tell by what to multiply the sum of a goes, so that sums of which it says the same get equal."""
    for _, many in parts:
        if gcd(many, divisor) == 1:
            return inverse(many, divisor)
    opposite = [(name, divisor - many) for name, many in parts]
    return 1 if parts <= opposite else -1
