"""Numbers that make a statement of one unknown true."""

from math import lcm

from somenumber.rests import meeting
from somenumber.simple import TRUE, about, put_simply
from somenumber.trees import OTHER, changed, joined, parts_of, period, put_within


def number_for(name, statement):
    """Tell a number that makes a statement true in which no other unknown stands, or None."""
    if statement[0] == "or":
        for part in statement[1]:
            number = number_for(name, part)
            if number is not None:
                return number
        return None
    for low, high in _stretches(statement):
        start = high if low is None else low
        rests = changed(statement, lambda one: _rests_at(one, name, start))
        number = _number_between(name, rests, low, high)
        if number is not None:
            return number
    return None


def _stretches(statement):
    """List pairs of a first and a last number, None for no end: between them only goes changes."""
    found = {}
    _find_starts(statement, found)
    starts = sorted(found)
    if not starts:
        return [(0, None)]
    lasts = [start - 1 for start in starts]
    return list(zip([None, *starts], [*lasts, None]))


def _find_starts(statement, found):
    """Add to a dict the numbers at which a simple statement begins or ceases to be true."""
    kind = statement[0]
    if kind in OTHER:
        for part in statement[1]:
            _find_starts(part, found)
    elif kind == "not":
        _find_starts(statement[1], found)
    elif kind != "goes":
        # Of one unknown alone, the share is 1 or -1.
        number, parts = statement[1]
        if kind == "nought":
            found[-number] = True
            found[1 - number] = True
        else:
            found[1 - number if parts[0][1] > 0 else number] = True


def _rests_at(one, name, number):
    """Tell what a simple statement comes to at a number; goes is left."""
    if about(one) == "goes":
        return one
    return put_simply(one, name, 1, (number, ()))


def _number_between(name, rests, low, high):
    """Tell a number between two, None for no end, at which goes is as told; None if there is none."""
    if rests[0] == "or":
        for part in rests[1]:
            number = _number_between(name, part, low, high)
            if number is not None:
                return number
        return None
    place = (0, 1)
    others = []
    for part in parts_of("and", rests):
        if part[0] != "goes":
            others.append(part)
            continue
        # Of one unknown alone, the share is 1.
        place = meeting(place, (-part[2][0] % part[1], part[1]))
        if place is None:
            return None
    return _number_at(name, joined("and", others), place, low, high)


def _number_at(name, statement, place, low, high):
    """Tell a number between two that leaves a rest and makes a statement true, or None."""
    rest, step = place
    number = high - (high - rest) % step if low is None else low + (rest - low) % step
    for _ in range(lcm(step, period(name, statement)) // step):
        if high is not None and number > high or low is not None and number < low:
            return None
        if put_within(statement, name, 1, (number, ())) == TRUE:
            return number
        number = number - step if low is None else number + step
    return None
