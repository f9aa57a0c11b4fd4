"""Bound unknowns taken away."""

from somenumber.cases import some_number
from somenumber.depths import depth, shallow
from somenumber.notes import MOST_WITHIN
from somenumber.simple import about, above, simple, sum_of
from somenumber.slimming import slimmed
from somenumber.statements import BINDING, OVER_SUMS, refuse_unless_plain
from somenumber.sums import added, times
from somenumber.trees import OTHER, changed, joined, opposite


def straight(statement):
    """Tell a statement of above, goes, and, or and not of goes alone; else NotPlain."""
    refuse_unless_plain(statement)
    return _fitting(changed(_formed(statement, True), _without_nought), statement)


def taken(name, statement):
    """Tell a plain statement, true where some number for an unknown makes one true; else NotPlain."""
    refuse_unless_plain(statement)
    return _fitting(some_number(name, slimmed(_formed(statement, True))), statement)


def left(statement):
    """Tell a plain statement that is true under the same values."""
    return _fitting(slimmed(_formed(statement, True)), statement)


def _fitting(found, statement):
    """Tell what was found for a statement with no more within one another than may be."""
    # Of more than that handed in, as many may be told: to get below may take very many parts.
    return shallow(found, max(MOST_WITHIN, depth(statement)))


def _formed(statement, wanted):
    """Tell a statement, or its contrary where it is not wanted, of simple statements in their form."""
    kind = statement[0]
    if kind == "not":
        return _formed(statement[1], not wanted)
    if kind in BINDING:
        # Each number makes a statement true where no number makes its contrary true.
        found = some_number(statement[1], slimmed(_formed(statement[2], kind == "some")))
        return found if wanted == (kind == "some") else opposite(found)
    if kind in OVER_SUMS:
        one = simple(statement)
        return one if wanted else opposite(one)
    parts = []
    for part in statement[1]:
        parts.append(_formed(part, wanted))
    return joined(kind if wanted else OTHER[kind], parts)


def _without_nought(one):
    """Tell what a simple statement says without speaking of nought."""
    if about(one) != "nought":
        return one
    up = sum_of(one)
    down = times(-1, up)
    if one[0] == "not":
        return joined("or", [above(up), above(down)])
    return joined("and", [above(added((1, ()), up)), above(added((1, ()), down))])
