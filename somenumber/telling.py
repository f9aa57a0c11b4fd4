"""What statements come to under values, and numbers that make them true."""

from somenumber.searching import number_for
from somenumber.simple import TRUE
from somenumber.statements import BINDING, OVER_SUMS, refuse_without_values, unknowns
from somenumber.sums import made
from somenumber.taking import left


def holds(statement, values):
    """Tell whether a statement is true under values; NoValue where a free unknown has none."""
    refuse_without_values(unknowns(statement), values)
    return left(_under(statement, values)) == TRUE


def told(name, statement, values):
    """Tell a number that makes a statement true as an unknown's value, None where there is none.

    NoValue where another free unknown has no value.
    """
    refuse_without_values([free for free in unknowns(statement) if free != name], values)
    others = {other: values[other] for other in values if other != name}
    return number_for(name, left(_under(statement, others)))


def _under(statement, values):
    """Tell a statement with values in the places of the free unknowns that have one."""
    kind = statement[0]
    if kind in OVER_SUMS:
        return (*statement[:-1], _sum_under(statement[-1], values))
    if kind == "not":
        return (kind, _under(statement[1], values))
    if kind in BINDING:
        others = {name: values[name] for name in values if name != statement[1]}
        return (kind, statement[1], _under(statement[2], others))
    parts = []
    for part in statement[1]:
        parts.append(_under(part, values))
    return (kind, tuple(parts))


def _sum_under(one, values):
    total = one[0]
    parts = []
    for name, many in one[1]:
        if name in values:
            total = total + many * values[name]
        else:
            parts.append((name, many))
    return made(total, parts)
