"""An unknown taken away: the cases in which some number makes a statement true.

Take a number that makes it true, and of each "or" one part alone that is true there: this is one
way in which the statement is true. Go down from the number by the step that changes no rest in this
way. Either it stays true for ever, or it ends: then a sum in it lies a step below at most. So it is
enough to look at the points a step at most above sums, and at what is true far below, where rests
alone count. The step of each way counts, since a common one may pass over the only number. Going up
instead is the same with the unknown's opposite in its place.

A point is a pair (by, one) and stands for the sum divided by the number from 1 on, where the number
goes into it.
"""

from math import gcd

from somenumber.rests import inverse
from somenumber.searching import number_for
from somenumber.simple import FALSE, TRUE, about, goes, sum_of
from somenumber.slimming import slimmed
from somenumber.statements import unknowns
from somenumber.sums import added, share, times, without
from somenumber.trees import OTHER, changed, joined, parted, parts_of, period, periods, put_within


def some_number(name, statement):
    """Tell a statement without an unknown, true where some number makes a slimmed one true."""
    return slimmed(_by_parts(name, statement, _with_sums))


def _by_parts(name, statement, tell):
    """Tell where some number makes a statement true; a function tells it of what can't be parted."""
    if statement[0] == "or":
        found = []
        for part in statement[1]:
            part = _by_parts(name, part, tell)
            if part == TRUE:
                return part
            found.append(part)
        return joined("or", found)
    others, having = parted(name, statement)
    if not having:
        return statement
    rest = joined("and", having)
    if rest[0] == "or":
        found = _by_parts(name, rest, tell)
    elif unknowns(rest) == [name]:
        found = FALSE if number_for(name, rest) is None else TRUE
    else:
        found = tell(name, rest)
    return joined("and", [*others, found])


def _with_sums(name, statement):
    """Tell it of a statement in which the unknown stands in each part that "and" joins."""
    point = _only_point(name, statement)
    if point is not None:
        return _at(name, statement, point)
    sides = []
    for side in (statement, put_within(statement, name, 1, (0, ((name, -1),)))):
        far = slimmed(changed(side, lambda one: _far_below(name, one)))
        if far == TRUE:
            return TRUE
        sides.append((side, far, _points(name, side)))
    side, far, points = min(sides, key=lambda each: len(each[2]))
    found = [_by_parts(name, far, _with_rests)]
    for point in points:
        part = slimmed(_at(name, _around(side, points[point]), point))
        if part == TRUE:
            return TRUE
        found.append(part)
    return joined("or", found)


def _with_rests(name, statement):
    """Tell it of a statement in which, in each part that "and" joins, goes speaks of the unknown."""
    others, best = _strictest_goes(name, statement)
    if best is not None:
        return _by_parts(name, slimmed(_solved(name, others, best)), _with_rests)
    steps = period(name, statement)
    if _leave_some(name, statement, steps):
        return TRUE
    found = []
    for number in range(steps):
        part = slimmed(_at(name, statement, (1, (number, ()))))
        if part == TRUE:
            return TRUE
        found.append(part)
    return joined("or", found)


def _at(name, statement, point):
    """Tell that a point is one, and a statement with it in the place of the unknown."""
    by, one = point
    return joined("and", [goes(by, one), put_within(statement, name, by, one)])


def _point(name, one, number):
    """Tell the point at which the sum of a simple statement comes to a number."""
    before = sum_of(one)
    many = share(before, name)
    rest = added((number, ()), times(-1, without(before, name)))
    return (many, rest) if many > 0 else (-many, times(-1, rest))


def _only_point(name, statement):
    """Tell the one point at which a statement may be true, None where no nought that is joined tells."""
    best = None
    for part in parts_of("and", statement):
        if part[0] == "nought":
            point = _point(name, part, 0)
            if best is None or point[0] < best[0]:
                best = point
    return best


def _far_below(name, one):
    """Tell what a simple statement comes to far below; rests are left."""
    many = share(sum_of(one), name)
    if many == 0 or about(one) == "goes":
        return one
    if one[0] == "above":
        return TRUE if many < 0 else FALSE
    return FALSE if one[0] == "nought" else TRUE


def _points(name, statement):
    """Tell the points a step at most above sums: by each, the simple statements of these sums."""
    ends = {}
    _find_ends(name, statement, ends)
    points = {}
    for one in ends:
        steps = periods(name, _around(statement, {one: True}))
        for number in _numbers(name, one, steps):
            points.setdefault(_point(name, one, number), {})[one] = True
    return points


def _find_ends(name, statement, ends):
    """Add to a dict the simple statements that are true at a number, but not far below."""
    kind = statement[0]
    if kind in OTHER:
        for part in statement[1]:
            _find_ends(name, part, ends)
        return
    many = share(sum_of(statement), name)
    if kind == "above" and many > 0 or about(statement) == "nought" and many != 0:
        ends[statement] = True


def _numbers(name, one, steps):
    """List what the sum of a simple statement may come to where it is true, but not one of some steps below."""
    if one[0] == "nought":
        return [0]
    many = share(sum_of(one), name)
    if one[0] == "above":
        return list(range(1, many * max(steps) + 1)) if steps else []
    # The contrary of nought is false at one number alone, so each step tells just one above it.
    return [many * step for step in steps]


def _around(statement, ones):
    """Tell a statement without branches of "or" that have none of some simple ones, though others do.

    Where several parts that "and" joins have one, all of it stays.
    """
    if statement[0] not in OTHER:
        return statement
    having = [_has(part, ones) for part in statement[1]]
    if statement[0] == "and" and having.count(True) != 1:
        return statement
    parts = []
    for part, has in zip(statement[1], having):
        if has:
            parts.append(_around(part, ones))
        elif statement[0] == "and":
            parts.append(part)
    return joined(statement[0], parts)


def _has(statement, ones):
    if statement[0] not in OTHER:
        return statement in ones
    for part in statement[1]:
        if _has(part, ones):
            return True
    return False


def _strictest_goes(name, statement):
    """Tell the other parts that "and" joins, and the goes that the fewest numbers make true, or None."""
    best = None
    for part in parts_of("and", statement):
        if part[0] == "goes" and (best is None or period(name, part) > period(name, best)):
            best = part
    return [part for part in parts_of("and", statement) if part != best], best


def _solved(name, others, best):
    """Tell other parts at just the numbers that make a goes true.

    The unknown then stands for what tells these numbers apart.
    """
    _, divisor, before = best
    many = share(before, name)
    rest = without(before, name)
    by = gcd(divisor, many)
    factor = inverse(many // by, divisor // by)
    place = added(times(-factor, rest), (0, ((name, divisor),)))
    return joined("and", [goes(by, rest), put_within(joined("and", others), name, by, place)])


def _leave_some(name, statement, steps):
    """Tell whether contraries of goes alone are joined that are too few to be false at all numbers."""
    most = 0
    for part in parts_of("and", statement):
        if part[0] != "not":
            return False
        most = most + steps // period(name, part)
    return most < steps
