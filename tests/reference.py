"""What the tests ask the program's answers against; it takes another way than the program does."""

import itertools
import math
import random

from somenumber.statements import is_true, unknowns
from somenumber.sums import made, share, value, without

GREAT = int("9" * 60)
TRUE = ("and", ())
FALSE = ("or", ())
OVER_SUMS = ("above", "nought", "goes")


def above(number, **shares):
    return ("above", made(number, list(shares.items())))


def nought(number, **shares):
    return ("nought", made(number, list(shares.items())))


def goes(divisor, number, **shares):
    return ("goes", divisor, made(number, list(shares.items())))


def no(statement):
    return ("not", statement)


def both(*parts):
    return ("and", parts)


def either(*parts):
    return ("or", parts)


def some(name, statement):
    return ("some", name, statement)


def every(name, statement):
    return ("all", name, statement)


def nots(many, statement):
    for _ in range(many):
        statement = no(statement)
    return statement


def parts_of(statement):
    if statement[0] in OVER_SUMS:
        return ()
    if statement[0] == "not":
        return (statement[1],)
    if statement[0] in ("some", "all"):
        return (statement[2],)
    return statement[1]


def over_sums(statement):
    """All statements over sums that stand in a statement."""
    if statement[0] in OVER_SUMS:
        return [statement]
    return [one for part in parts_of(statement) for one in over_sums(part)]


def depth(statement):
    return 1 + max([depth(part) for part in parts_of(statement)], default=0)


def names_in(statement):
    return {name for one in over_sums(statement) for name, _ in one[-1][1]}


def is_sum(one):
    if type(one) is not tuple or len(one) != 2 or type(one[0]) is not int or type(one[1]) is not tuple:
        return False
    for part in one[1]:
        if type(part) is not tuple or len(part) != 2 or type(part[0]) is not str or type(part[1]) is not int:
            return False
    names = [name for name, _ in one[1]]
    return names == sorted(set(names)) and all(many != 0 for _, many in one[1])


def is_plain_statement(statement):
    """Whether it is one of the tuples that the document lists, without some and all."""
    if type(statement) is not tuple:
        return False
    kind = statement[0]
    if kind in ("above", "nought"):
        return len(statement) == 2 and is_sum(statement[1])
    if kind == "goes":
        return len(statement) == 3 and type(statement[1]) is int and statement[1] >= 1 and is_sum(statement[2])
    if kind == "not":
        return len(statement) == 2 and is_plain_statement(statement[1])
    if kind not in ("and", "or") or len(statement) != 2 or type(statement[1]) is not tuple:
        return False
    return all(is_plain_statement(part) for part in statement[1])


def is_straight(statement):
    if statement[0] in ("and", "or"):
        return all(is_straight(part) for part in statement[1])
    if statement[0] == "not":
        return statement[1][0] == "goes"
    return statement[0] in ("above", "goes")


def numbers_to_try(name, statement, values):
    """Numbers among which one makes a plain statement true, if any number does.

    Between the numbers at which a sum crosses nought, only rests change.
    """
    steps = 1
    crossings = [0]
    for one in over_sums(statement):
        many = share(one[-1], name)
        if many != 0 and one[0] == "goes":
            steps = math.lcm(steps, one[1])
        elif many != 0:
            crossings.append(-value(without(one[-1], name), values) // many)
    return {crossing + more for crossing in crossings for more in range(-steps - 1, steps + 2)}


def some_number_makes(name, statement, values):
    for number in numbers_to_try(name, statement, values):
        if is_true(statement, {**values, name: number}):
            return True
    return False


def within(low, high, statement):
    """A statement in which each bound unknown is kept between two numbers."""
    kind = statement[0]
    if kind in OVER_SUMS:
        return statement
    if kind == "not":
        return no(within(low, high, statement[1]))
    if kind in ("and", "or"):
        return (kind, tuple(within(low, high, part) for part in statement[1]))
    name = statement[1]
    inside = both(above(1 - low, **{name: 1}), above(1 + high, **{name: -1}))
    inner = within(low, high, statement[2])
    if kind == "some":
        return some(name, both(inside, inner))
    return every(name, either(no(inside), inner))


def truth_within(low, high, statement, values):
    """Whether a statement is true where each bound unknown goes through the numbers between two."""
    kind = statement[0]
    if kind in OVER_SUMS:
        return is_true(statement, values)
    if kind == "not":
        return not truth_within(low, high, statement[1], values)
    if kind == "and":
        return all(truth_within(low, high, part, values) for part in statement[1])
    if kind == "or":
        return any(truth_within(low, high, part, values) for part in statement[1])
    answers = (
        truth_within(low, high, statement[2], {**values, statement[1]: number}) for number in range(low, high + 1)
    )
    return any(answers) if kind == "some" else all(answers)


class Draw:
    """Statements and values drawn by a fixed seed, so that each run draws the same ones."""

    def __init__(self, seed):
        self.random = random.Random(seed)

    def sum(self, names, most):
        pairs = [(name, self.random.randint(-most, most)) for name in names if self.random.random() < 0.7]
        return made(self.random.randint(-6, 6), pairs)

    def over_sum(self, names, most):
        kind = self.random.choice(("above", "above", "nought", "goes"))
        if kind == "goes":
            return (kind, self.random.randint(1, 6), self.sum(names, most))
        return (kind, self.sum(names, most))

    def plain(self, names, deep, most=3):
        if deep == 1 or self.random.random() < 0.2:
            return self.over_sum(names, most)
        if self.random.random() < 0.2:
            return no(self.plain(names, deep - 1, most))
        many = self.random.choice((0, 1, 2, 2, 2, 3, 3))
        kind = self.random.choice(("and", "or"))
        return (kind, tuple(self.plain(names, deep - 1, most) for _ in range(many)))

    def statement(self, names, deep, most=2):
        if deep == 1:
            return self.over_sum(names, most)
        kind = self.random.choice(("some", "all", "some", "all", "not", "and", "or", "and", "or", "over"))
        if kind in ("some", "all"):
            return (kind, self.random.choice(names), self.statement(names, deep - 1, most))
        if kind == "not":
            return no(self.statement(names, deep - 1, most))
        if kind == "over":
            return self.over_sum(names, most)
        return (kind, tuple(self.statement(names, deep - 1, most) for _ in range(self.random.randint(1, 2))))

    def of_few(self, few, deep):
        """A plain statement of a few that stand in it many times."""
        if deep == 1:
            one = self.random.choice(few)
            return no(one) if self.random.random() < 0.2 else one
        kind = self.random.choice(("and", "or"))
        return (kind, tuple(self.of_few(few, deep - 1) for _ in range(self.random.randint(2, 3))))

    def clauses(self, names, many, most=3):
        """Both of bounds for x and of many statements that each say "or"."""
        bounds = (above(self.random.randint(0, 9), x=1, y=-1), above(self.random.randint(0, 9), x=-1, z=1))
        parts = [either(*[self.over_sum(names, most) for _ in range(self.random.randint(2, 3))]) for _ in range(many)]
        return both(*bounds, *parts)

    def barred(self, most):
        """Of x, beside y and z: some barred numbers, a bound for all, and "or" of parts with a bound and steps of their own."""
        bars = [no(self.over_x(nought, self.random.choice((1, -1)), most)) for _ in range(self.random.randint(1, 4))]
        parts = [*bars, self.over_x(above, -1, 1)]
        for _ in range(self.random.choice((1, 1, 2))):
            parts.append(either(*[self.stepping(most) for _ in range(self.random.randint(2, 3))]))
        self.random.shuffle(parts)
        return both(*parts)

    def stepping(self, most):
        """A bound for x, or a number barred or told for it, and what goes into another sum."""
        first = self.over_x(above, 1, most)
        if self.random.random() < 0.2:
            first = self.over_x(nought, 1, most)
        if self.random.random() < 0.2:
            first = no(first)
        rests = [goes(divisor, self.random.randint(0, 5), x=1, z=self.random.randint(0, 1)) for divisor in (2, 3, 4)]
        self.random.shuffle(rests)
        return both(first, either(*rests[1:]) if self.random.random() < 0.2 else rests[0])

    def over_x(self, kind, way, most):
        many = way * self.random.randint(1, most)
        return kind(self.random.randint(-3, 3), **{"x": many, self.random.choice("yz"): -many})

    def rests(self, names, deep):
        """A plain statement in which goes alone speaks of sums."""
        if deep == 1:
            one = ("goes", self.random.randint(2, 9), self.sum(names, 9))
            return no(one) if self.random.random() < 0.6 else one
        kind = self.random.choice(("and", "and", "or"))
        return (kind, tuple(self.rests(names, self.random.randint(1, deep - 1)) for _ in range(3)))

    def number(self):
        if self.random.random() < 0.2:
            return self.random.randint(-GREAT, GREAT)
        return self.random.randint(-12, 12)

    def values(self, names="abcwxyz"):
        return {name: self.number() for name in names}


def small_values(names, numbers=(-4, -1, 0, 1, 3, 8)):
    """All values of some names out of a few numbers."""
    names = sorted(names)
    return [dict(zip(names, each)) for each in itertools.product(numbers, repeat=len(names))]


def great_values(names):
    """Some values of 60 figures."""
    names = sorted(names)
    found = []
    for shift in range(4):
        numbers = [(-1) ** (at + shift) * (GREAT - at * shift) for at in range(len(names))]
        found.append(dict(zip(names, numbers)))
    return found


def free_names(statement):
    return set(unknowns(statement))
