"""Statements over sums: which unknowns stand in them, and when they are true."""

from somenumber.errors import NoValue, NotPlain
from somenumber.sums import put_in, value

OVER_SUMS = ("above", "nought", "goes")
BINDING = ("some", "all")


def is_plain(statement):
    """Tell whether neither some nor all stands in a statement."""
    if statement[0] in BINDING:
        return False
    for part in parts_within(statement):
        if not is_plain(part):
            return False
    return True


def unknowns(statement):
    """List the names that stand free in a statement, rising, each once."""
    found = {}
    _find_free(statement, (), found)
    return sorted(found)


def is_true(statement, values):
    """Tell whether a plain statement is true under values; else NotPlain, then NoValue."""
    refuse_unless_plain(statement)
    # Ahead of the answer, since a part that does not count for it is never looked at.
    refuse_without_values(unknowns(statement), values)
    return _truth(statement, values)


def put(statement, name, other):
    """Tell the plain statement with a sum in the place of an unknown; else NotPlain."""
    refuse_unless_plain(statement)
    return _put_within(statement, name, other)


def refuse_unless_plain(statement):
    """Raise NotPlain where some or all stands in a statement."""
    if not is_plain(statement):
        raise NotPlain("some or all stands in the statement")


def refuse_without_values(names, values):
    """Raise NoValue where one of some names has no value."""
    for name in names:
        if name not in values:
            raise NoValue(f"no value is known for {name}")


def parts_within(statement):
    """Tell the statements that stand directly within a statement."""
    kind = statement[0]
    if kind in OVER_SUMS:
        return ()
    if kind == "not":
        return (statement[1],)
    if kind in BINDING:
        return (statement[2],)
    return statement[1]


def _find_free(statement, bound, found):
    """Add the names that stand free in a statement, apart from bound ones, to a dict."""
    if statement[0] in OVER_SUMS:
        for name, _ in statement[-1][1]:
            if name not in bound:
                found[name] = True
    if statement[0] in BINDING:
        bound = (*bound, statement[1])
    for part in parts_within(statement):
        _find_free(part, bound, found)


def _truth(statement, values):
    kind = statement[0]
    if kind in OVER_SUMS:
        return _truth_of_number(statement, value(statement[-1], values))
    if kind == "not":
        return not _truth(statement[1], values)
    # One true part decides "or", one false part decides "and".
    deciding = kind == "or"
    for part in statement[1]:
        if _truth(part, values) == deciding:
            return deciding
    return not deciding


def _truth_of_number(statement, number):
    """Tell whether a statement over a sum is true where the sum comes to a number."""
    if statement[0] == "above":
        return number > 0
    if statement[0] == "nought":
        return number == 0
    return _goes_into(statement[1], number)


def _goes_into(divisor, number):
    # No statement has the divisor 0, but numbers beyond a limit must not raise an error.
    if divisor == 0:
        return number == 0
    return number % divisor == 0


def _put_within(statement, name, other):
    kind = statement[0]
    if kind in OVER_SUMS:
        return (*statement[:-1], put_in(statement[-1], name, other))
    if kind == "not":
        return (kind, _put_within(statement[1], name, other))
    parts = []
    for part in statement[1]:
        parts.append(_put_within(part, name, other))
    return (kind, tuple(parts))
