"""Statements in which "and" and "or" alone join simple ones in their form."""

from math import gcd, lcm

from somenumber.simple import FALSE, TRUE, contrary, put_simply, sum_of
from somenumber.sums import share

OTHER = {"and": "or", "or": "and"}


def decides(kind, part):
    """Tell whether a part settles what "and" or "or" of it and of others comes to."""
    return part == (FALSE if kind == "and" else TRUE)


def joined(kind, parts):
    """Join statements by "and" or by "or"; parts of the same kind are taken apart."""
    found = []
    for part in parts:
        if decides(kind, part):
            return part
        if part[0] == kind:
            found.extend(part[1])
        else:
            found.append(part)
    if len(found) == 1:
        return found[0]
    return (kind, tuple(found))


def opposite(statement):
    """Tell the contrary of a statement."""
    kind = statement[0]
    if kind not in OTHER:
        return contrary(statement)
    parts = []
    for part in statement[1]:
        parts.append(opposite(part))
    return (OTHER[kind], tuple(parts))


def changed(statement, change):
    """Tell a statement with each simple one in it changed by a function."""
    kind = statement[0]
    if kind not in OTHER:
        return change(statement)
    parts = []
    for part in statement[1]:
        part = changed(part, change)
        if decides(kind, part):
            return part
        parts.append(part)
    return joined(kind, parts)


def put_within(statement, name, by, other):
    """Tell a statement with a sum, divided by a number from 1 on, in the place of an unknown."""
    return changed(statement, lambda one: put_simply(one, name, by, other))


def stands_in(name, statement):
    """Tell whether an unknown stands in a statement."""
    if statement[0] not in OTHER:
        return share(sum_of(statement), name) != 0
    for part in statement[1]:
        if stands_in(name, part):
            return True
    return False


def parts_of(kind, statement):
    """Tell what "and" or "or" joins in a statement; of another one it joins the statement alone."""
    return statement[1] if statement[0] == kind else (statement,)


def parted(name, statement):
    """List what "and" joins in a statement: where an unknown does not stand, and where it does."""
    others = []
    having = []
    for part in parts_of("and", statement):
        if stands_in(name, part):
            having.append(part)
        else:
            others.append(part)
    return others, having


def period(name, statement):
    """Tell the step by which an unknown may be moved without a change of what goes into sums."""
    if statement[0] in OTHER:
        least = 1
        for part in statement[1]:
            least = lcm(least, period(name, part))
        return least
    one = statement[1] if statement[0] == "not" else statement
    if one[0] != "goes":
        return 1
    return one[1] // gcd(one[1], share(one[2], name))


def periods(name, statement):
    """List, rising, the periods of the ways in which a statement is true: one part alone of each "or".

    Ways in which a nought tells the unknown's one number are left out: nothing moves it there.
    """
    kind = statement[0]
    if kind not in OTHER:
        told = kind == "nought" and stands_in(name, statement)
        return [] if told else [period(name, statement)]
    found = {1: True} if kind == "and" else {}
    for part in statement[1]:
        others = periods(name, part)
        if kind == "and":
            found = {lcm(one, other): True for one in found for other in others}
        else:
            for other in others:
                found[other] = True
    return sorted(found)
