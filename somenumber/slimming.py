"""Statements made smaller: what follows from the parts around it is left out."""

from somenumber.known import Known, again, learn, news, tells
from somenumber.notes import written
from somenumber.simple import FALSE, TRUE
from somenumber.trees import OTHER, decides, joined, opposite, parts_of


def slimmed(statement):
    """Tell a statement that is true under the same values and mostly smaller."""
    return _slimmed(statement, Known())


def _slimmed(statement, known):
    kind = statement[0]
    if kind not in OTHER:
        return statement
    within = again(known)
    waiting = statement[1]
    while True:
        bigger = _learned(joined(kind, waiting), kind, within)
        if bigger is None:
            return FALSE if kind == "and" else TRUE
        waiting = []
        settled = True
        for part in bigger:
            part = _slimmed(part, within)
            waiting.append(part)
            settled = settled and part[0] == OTHER[kind] and not decides(kind, part)
        if settled:
            break
    found = news(within, known)
    if kind == "or":
        found = [opposite(one) for one in found]
    return joined(kind, [*found, *_each_once(waiting)])


def _learned(statement, kind, known):
    """Learn what holds wherever the bigger parts of a statement count; list these.

    Beside "and", they count where the simple parts are true, beside "or" where these are not. None
    where they never count, so that the statement is settled without them.
    """
    bigger = []
    for part in parts_of(kind, statement):
        if decides(kind, part):
            return None
        if part[0] in OTHER:
            bigger.append(part)
            continue
        one = part if kind == "and" else opposite(part)
        told = tells(known, one)
        if told is False:
            return None
        if told is None:
            learn(known, one)
    return bigger


def _each_once(parts):
    if len(parts) < 2:
        return parts
    # A text is the key, since statements may be too deep to be one.
    kept = {}
    for part in parts:
        kept[written(part)] = part
    return list(kept.values())
