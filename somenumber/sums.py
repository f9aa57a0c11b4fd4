"""Sums: pairs of a number and of parts, each part an unknown's name and its share."""

from somenumber.errors import NoValue


def made(number, pairs):
    """Tell the sum of a number and of pairs (name, share), in any order and several of a name."""
    shares = {}
    for name, many in pairs:
        shares[name] = shares.get(name, 0) + many
    parts = [(name, shares[name]) for name in sorted(shares) if shares[name] != 0]
    return (number, tuple(parts))


def added(one, other):
    """Tell the sum of two sums."""
    return made(one[0] + other[0], [*one[1], *other[1]])


def times(number, one):
    """Tell a sum times a number."""
    return made(number * one[0], [(name, number * many) for name, many in one[1]])


def share(one, name):
    """Tell the share of an unknown, 0 where it does not stand in the sum."""
    for unknown, many in one[1]:
        if unknown == name:
            return many
    return 0


def without(one, name):
    """Tell the sum without an unknown."""
    return made(one[0], [(unknown, many) for unknown, many in one[1] if unknown != name])


def put_in(one, name, other):
    """Tell the sum in which another sum stands in the place of an unknown."""
    # The unknown is taken out first, for it may stand in the other sum, too.
    return added(without(one, name), times(share(one, name), other))


def value(one, values):
    """Tell the number that a sum comes to; NoValue where one of its unknowns has none."""
    total = one[0]
    for name, many in one[1]:
        if name not in values:
            raise NoValue(f"no value is known for {name}")
        total = total + many * values[name]
    return total
