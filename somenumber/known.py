"""What simple statements tell about sums when they are taken for granted."""

from somenumber.simple import contrary, turned


class Known:
    """Bounds and rests of sums; parts of sums stand for the sum without its number."""

    def __init__(self):
        # The least number that parts come to. The greatest one is kept under the turned parts.
        self.lows = {}
        # Pairs of parts and of a number that they do not come to.
        self.barred = {}
        # By divisor and parts: the number beside which the divisor goes, or those where it does not.
        self.rests = {}
        self.no_rests = {}


def again(known):
    """Tell a copy that may learn more."""
    copied = Known()
    copied.lows = {key: known.lows[key] for key in known.lows}
    copied.barred = {key: known.barred[key] for key in known.barred}
    copied.rests = {key: known.rests[key] for key in known.rests}
    copied.no_rests = {key: known.no_rests[key] for key in known.no_rests}
    return copied


def tells(known, one):
    """Tell whether a simple statement is true, or None where it is not known."""
    kind = one[0]
    if kind == "not":
        told = tells(known, one[1])
        return None if told is None else not told
    number, parts = one[-1]
    if kind == "goes":
        key = (one[1], parts)
        if key in known.rests:
            return known.rests[key] == number
        return False if number in known.no_rests.get(key, ()) else None
    low, high = _bounds(known, parts)
    if kind == "above":
        if low is not None and low >= 1 - number:
            return True
        return False if high is not None and high < 1 - number else None
    return _tells_equal(known, parts, -number)


def learn(known, one):
    """Take a simple statement for granted of which it is not known whether it is true."""
    kind = one[0]
    number, parts = one[1][-1] if kind == "not" else one[-1]
    if kind == "above":
        _raise_low(known, parts, 1 - number)
    elif kind == "nought":
        _raise_low(known, parts, -number)
        _raise_low(known, turned(parts), number)
    elif kind == "goes":
        known.rests[(one[1], parts)] = number
    elif one[1][0] == "nought":
        _bar(known, parts, -number)
    else:
        _bar_rest(known, one[1][1], parts, number)


def news(known, before):
    """List simple statements that tell what is known and was not known before."""
    found = _news_of_bounds(known, before)
    for parts, number in known.barred:
        one = ("not", ("nought", (-number, parts)))
        low, high = _bounds(known, parts)
        inside = (low is None or low < number) and (high is None or high > number)
        if inside and (parts, number) not in before.barred:
            found.append(one)
    for divisor, parts in known.rests:
        if (divisor, parts) not in before.rests:
            found.append(("goes", divisor, (known.rests[(divisor, parts)], parts)))
    for key in known.no_rests:
        if key not in known.rests:
            for number in known.no_rests[key]:
                if number not in before.no_rests.get(key, ()):
                    found.append(contrary(("goes", key[0], (number, key[1]))))
    return found


def _news_of_bounds(known, before):
    found = []
    for parts, low in known.lows.items():
        if before.lows.get(parts) == low:
            continue
        other = turned(parts)
        if known.lows.get(other) != -low:
            found.append(("above", (1 - low, parts)))
        elif parts[0][1] > 0:
            found.append(("nought", (-low, parts)))
        elif before.lows.get(other) == -low:
            # The other bound is no news, so nothing else tells of this one.
            found.append(("nought", (low, other)))
    return found


def _bounds(known, parts):
    """Tell the least and the greatest number that parts come to, None for one that is not known."""
    low = known.lows.get(parts)
    turned_low = known.lows.get(turned(parts))
    high = None if turned_low is None else -turned_low
    return low, high


def _tells_equal(known, parts, number):
    low, high = _bounds(known, parts)
    if low is not None and low > number or high is not None and high < number:
        return False
    if (parts, number) in known.barred:
        return False
    return True if low == number and high == number else None


def _raise_low(known, parts, low):
    if parts[0][1] > 0:
        while (parts, low) in known.barred:
            low += 1
    else:
        other = turned(parts)
        while (other, -low) in known.barred:
            low += 1
    known.lows[parts] = low


def _bar(known, parts, number):
    known.barred[(parts, number)] = True
    low, high = _bounds(known, parts)
    if low == number:
        _raise_low(known, parts, low)
    elif high == number:
        _raise_low(known, turned(parts), -high)


def _bar_rest(known, divisor, parts, number):
    key = (divisor, parts)
    barred = (*known.no_rests.get(key, ()), number)
    known.no_rests[key] = barred
    if len(barred) == divisor - 1:
        for rest in range(divisor):
            if rest not in barred:
                known.rests[key] = rest
