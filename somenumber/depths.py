"""How many statements stand within one another, and statements in which fewer do."""

from somenumber.statements import parts_within
from somenumber.trees import OTHER, joined

# So many stand within one another in "and" of "or" of simple statements, contraries among them.
FEWEST = 4
# Of so many simple statements, copies are not yet worth avoiding.
FEW = 10


def depth(statement):
    """Tell how many statements stand within one another; one alone is one."""
    deepest = 0
    for part in parts_within(statement):
        deepest = max(deepest, depth(part))
    return deepest + 1


def shallow(statement, most):
    """Tell a statement of simple ones with at most so many within one another, from 4 on."""
    if depth(statement) <= most:
        return statement
    kind = statement[0]
    parts = []
    for part in statement[1]:
        if depth(part) >= most:
            part = _fitting(kind, part, most)
        parts.append(part)
    return joined(kind, parts)


def _fitting(kind, statement, most):
    """Tell a statement, a part of one of the other kind, so that that one is shallow with it."""
    deep = [part for part in statement[1] if depth(part) >= most - 1]
    others = [part for part in statement[1] if depth(part) < most - 1]
    if len(deep) == 1 and _size(others) <= FEW:
        # Each part within the deep one gets the others beside it; then the deep one itself is gone.
        spread = joined(kind, [joined(statement[0], [*others, part]) for part in deep[0][1]])
        return shallow(spread, most)
    if most > FEWEST:
        return shallow(statement, most - 1)
    groups = _groups(kind, statement)
    return joined(kind, [joined(statement[0], list(group)) for group in groups])


def _size(parts):
    """Tell how many simple statements stand in some statements."""
    total = 0
    for part in parts:
        total = total + (_size(part[1]) if part[0] in OTHER else 1)
    return total


def _groups(kind, statement):
    """Tell groups of simple statements, as keys of a dict.

    The statement says what all groups say that are joined by "and" or "or", as the kind is, where
    each of them is joined by the other one.
    """
    if statement[0] not in OTHER:
        return {(statement,): True}
    if statement[0] == kind:
        found = {}
        for part in statement[1]:
            for group in _groups(kind, part):
                found[group] = True
        return found
    found = {(): True}
    for part in statement[1]:
        groups = _groups(kind, part)
        found = {_together(one, other): True for one in found for other in groups}
    return found


def _together(one, other):
    """Tell the simple statements of two groups, each once."""
    return (*one, *[each for each in other if each not in one])
