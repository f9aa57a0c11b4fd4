import copy
import itertools
import unittest

from somenumber.errors import NoNote, NotPlain, NoValue, SomeError
from somenumber.statements import is_plain, is_true, put, unknowns
from somenumber.sums import value

GREAT = int("9" * 60)

X = (0, (("x", 1),))
Y = (0, (("y", 1),))
TRUE = ("and", ())
FALSE = ("or", ())
SOME = ("some", "x", ("above", X))
EVERY = ("all", "x", ("above", X))


def number(n):
    return (n, ())


def nots(many, statement):
    for _ in range(many):
        statement = ("not", statement)
    return statement


def mixed(many, statement):
    """A statement with many plain ones around it, of all three kinds in turn."""
    for n in range(many):
        around = (("not", statement), ("and", (TRUE, statement)), ("or", (statement, FALSE)))
        statement = around[n % 3]
    return statement


def around(statement):
    """A statement within each plain kind that holds others, first, last and alone."""
    return (
        ("not", statement),
        ("and", (statement,)),
        ("and", (FALSE, statement)),
        ("and", (statement, TRUE)),
        ("or", (statement,)),
        ("or", (TRUE, statement)),
        ("or", (statement, FALSE)),
        ("not", ("or", (TRUE, ("and", (FALSE, ("not", statement)))))),
    )


PLAIN = (
    TRUE,
    FALSE,
    ("above", (1, (("x", 2), ("y", -3)))),
    ("nought", (-2, (("x", 1), ("z", 1)))),
    ("goes", 4, (1, (("x", 3),))),
    ("not", ("goes", 3, (0, (("y", 2), ("z", -1))))),
    ("and", (("above", X), ("nought", Y), ("goes", 2, (5, ())))),
    ("or", (("not", ("above", X)), ("and", (("nought", Y), ("or", (("goes", 5, X), FALSE)))))),
)


class IsTrueOverSums(unittest.TestCase):
    def of_number(self, start, n, expected):
        """Ask with the number in the sum itself, and with it as an unknown's value."""
        self.assertIs(is_true((*start, number(n)), {}), expected)
        self.assertIs(is_true((*start, X), {"x": n}), expected)
        self.assertIs(is_true((*start, (n - 6, (("x", 3), ("y", -1)))), {"x": 4, "y": 6}), expected)

    def test_above(self):
        for n, expected in ((-1, False), (0, False), (1, True), (2, True), (GREAT, True), (-GREAT, False)):
            self.of_number(("above",), n, expected)

    def test_nought(self):
        for n, expected in ((-1, False), (0, True), (1, False), (GREAT, False), (-GREAT, False)):
            self.of_number(("nought",), n, expected)

    def test_one_goes_into_all(self):
        for n in (-GREAT, -2, -1, 0, 1, 2, GREAT):
            self.of_number(("goes", 1), n, True)

    def test_each_goes_into_nought(self):
        for divisor in (1, 2, 3, 12, GREAT):
            self.of_number(("goes", divisor), 0, True)

    def test_goes_with_and_without_rest(self):
        for n in range(-13, 14):
            self.of_number(("goes", 4), n, n in (-12, -8, -4, 0, 4, 8, 12))
            self.of_number(("goes", 6), n, n in (-12, -6, 0, 6, 12))

    def test_goes_into_what_is_smaller(self):
        for n in (-4, -1, 1, 4):
            self.of_number(("goes", 5), n, False)

    def test_goes_with_great_numbers(self):
        self.of_number(("goes", GREAT), 7 * GREAT, True)
        self.of_number(("goes", GREAT), -7 * GREAT, True)
        self.of_number(("goes", GREAT), 7 * GREAT + 1, False)
        self.of_number(("goes", GREAT), 1 - 7 * GREAT, False)
        self.of_number(("goes", 3), GREAT, True)
        self.of_number(("goes", 7 * 10 ** 60), 10 ** 60, False)

    def test_numbers_of_goes_beyond_the_limit_raise_nothing(self):
        self.of_number(("goes", 0), 0, True)
        self.of_number(("goes", 0), 5, False)
        self.of_number(("goes", -3), 6, True)
        self.of_number(("goes", -3), 7, False)


class IsTrueOverStatements(unittest.TestCase):
    def test_none(self):
        self.assertIs(is_true(("and", ()), {}), True)
        self.assertIs(is_true(("or", ()), {}), False)

    def test_one(self):
        for n in (0, 1):
            for kind in ("and", "or"):
                self.assertIs(is_true((kind, (("above", X),)), {"x": n}), n == 1)

    def test_many(self):
        parts = tuple([("above", (0, ((name, 1),))) for name in "abcd"])
        for numbers in itertools.product((0, 1), repeat=4):
            values = dict(zip("abcd", numbers))
            self.assertIs(is_true(("and", parts), values), numbers == (1, 1, 1, 1))
            self.assertIs(is_true(("or", parts), values), numbers != (0, 0, 0, 0))

    def test_not(self):
        self.assertIs(is_true(("not", TRUE), {}), False)
        self.assertIs(is_true(("not", FALSE), {}), True)
        self.assertIs(is_true(("not", ("above", X)), {"x": 0}), True)
        self.assertIs(is_true(("not", ("nought", X)), {"x": 0}), False)
        self.assertIs(is_true(("not", ("not", ("above", X))), {"x": 1}), True)

    def test_within_one_another(self):
        one = ("or", (("and", (("above", X), ("goes", 2, X))), ("not", ("or", (("above", X), ("goes", 3, X))))))
        for x in range(-7, 8):
            expected = (x > 0 and x % 2 == 0) or not (x > 0 or x % 3 == 0)
            self.assertIs(is_true(one, {"x": x}), expected)

    def test_forty_deep(self):
        self.assertIs(is_true(nots(39, ("above", X)), {"x": 1}), False)
        self.assertIs(is_true(nots(39, ("above", X)), {"x": 0}), True)
        # Of every three kinds around it, just one is a not: 13 of 39.
        self.assertIs(is_true(mixed(39, ("above", X)), {"x": 1}), False)
        self.assertIs(is_true(mixed(39, ("above", X)), {"x": 0}), True)

    def test_beyond_forty_deep(self):
        self.assertIs(is_true(nots(40, ("above", X)), {"x": 1}), True)
        self.assertIs(is_true(nots(200, ("above", X)), {"x": 1}), True)
        self.assertIs(is_true(mixed(200, ("above", X)), {"x": 1}), False)

    def test_asked_again_it_tells_the_same(self):
        for one in PLAIN:
            values = ({"x": 1, "y": 2, "z": 3}, {"x": -5, "y": 0, "z": 7})
            first = [is_true(one, each) for each in values]
            self.assertEqual([is_true(one, each) for each in reversed(values)], first[::-1])


class IsTrueRefused(unittest.TestCase):
    def refused(self, statement, values, kind, others):
        for above in (kind, SomeError, ValueError):
            with self.assertRaises(above) as caught:
                is_true(statement, values)
            self.assertNotIsInstance(caught.exception, others)

    def not_plain(self, statement, values):
        self.refused(statement, values, NotPlain, (NoValue, NoNote))

    def no_value(self, statement, values):
        self.refused(statement, values, NoValue, (NotPlain, NoNote))

    def test_some_or_all_anywhere(self):
        for bound in (SOME, EVERY, ("some", "x", TRUE), ("all", "x", SOME)):
            self.not_plain(bound, {"x": 1})
            self.not_plain(mixed(37, bound), {"x": 1})
            for one in around(bound):
                self.not_plain(one, {"x": 1})

    def test_not_plain_comes_first(self):
        missing = ("above", Y)
        for bound in (SOME, EVERY):
            for one in (("and", (missing, bound)), ("or", (bound, missing)), ("not", ("and", (missing, bound)))):
                self.not_plain(one, {})
            self.not_plain((bound[0], "x", ("above", (0, (("x", 1), ("y", 1))))), {})

    def test_an_unknown_without_a_value(self):
        for one in (("above", X), ("nought", X), ("goes", 3, X), ("goes", 1, X)):
            self.no_value(one, {})
            self.no_value(one, {"y": 1, "xx": 2})
            self.no_value(nots(39, one), {"y": 1})
            for outer in around(one):
                self.no_value(outer, {"y": 1})
        self.no_value(("above", (0, (("x", 1), ("y", 1)))), {"x": 5})

    def test_an_unknown_without_a_value_in_a_part_that_does_not_count(self):
        self.no_value(("and", (FALSE, ("above", X))), {})
        self.no_value(("and", (("above", Y), ("above", X))), {"y": 0})
        self.no_value(("and", (("above", X), ("above", Y))), {"y": 0})
        self.no_value(("or", (TRUE, ("above", X))), {})
        self.no_value(("or", (("above", Y), ("above", X))), {"y": 1})
        self.no_value(("or", (("above", Y), ("and", (FALSE, ("not", ("goes", 1, X)))))), {"y": 1})

    def test_the_values_stay(self):
        values = {"y": 1, "x": 2}
        for one in (("and", (("above", X), ("above", Y))), ("above", (0, (("z", 1),))), SOME):
            try:
                is_true(one, values)
            except SomeError:
                pass
            self.assertEqual(list(values.items()), [("y", 1), ("x", 2)])


class IsPlain(unittest.TestCase):
    def test_nowhere(self):
        for one in PLAIN:
            self.assertIs(is_plain(one), True)
            for outer in around(one):
                self.assertIs(is_plain(outer), True)
            self.assertIs(is_plain(mixed(39, one)), True)

    def test_at_the_top(self):
        for one in (SOME, EVERY, ("some", "x", TRUE), ("all", "y", FALSE), ("all", "x", SOME)):
            self.assertIs(is_plain(one), False)

    def test_deep_inside(self):
        for bound in (SOME, EVERY):
            self.assertIs(is_plain(nots(38, bound)), False)
            self.assertIs(is_plain(mixed(38, bound)), False)
            self.assertIs(is_plain(mixed(200, bound)), False)
            for one in around(bound):
                self.assertIs(is_plain(one), False)

    def test_an_unknown_called_like_a_kind(self):
        for name in ("some", "all", "and", "not"):
            one = (0, ((name, 1),))
            self.assertIs(is_plain(("above", one)), True)
            self.assertIs(is_plain(("and", (("goes", 2, one), ("not", ("nought", one))))), True)


class Unknowns(unittest.TestCase):
    def lists(self, statement, expected):
        told = unknowns(statement)
        self.assertIs(type(told), list)
        self.assertEqual(told, expected)

    def test_no_names_at_all(self):
        for one in (TRUE, FALSE, ("above", (1, ())), ("goes", 2, (1, ())), ("not", ("nought", (0, ())))):
            self.lists(one, [])

    def test_free_names_each_once_and_rising(self):
        self.lists(("above", (0, (("a", 1), ("ab", 1), ("b", 1)))), ["a", "ab", "b"])
        self.lists(("nought", X), ["x"])
        self.lists(("goes", 3, Y), ["y"])
        parts = tuple([("above", (0, ((name, 1),))) for name in ("z", "ab", "a", "z", "abcdefgh", "b", "ab")])
        for kind in ("and", "or"):
            self.lists((kind, parts), ["a", "ab", "abcdefgh", "b", "z"])
            self.lists(("not", (kind, parts)), ["a", "ab", "abcdefgh", "b", "z"])

    def test_bound_names(self):
        for kind in ("some", "all"):
            self.lists((kind, "x", ("above", X)), [])
            self.lists((kind, "x", ("and", (("above", X), ("not", ("goes", 2, X))))), [])
            self.lists((kind, "x", ("above", (0, (("x", 1), ("y", 1))))), ["y"])

    def test_a_name_both_free_and_bound(self):
        for kind in ("some", "all"):
            bound = (kind, "x", ("above", X))
            self.lists(("and", (bound, ("above", X))), ["x"])
            self.lists(("and", (("above", X), bound)), ["x"])
            self.lists(("or", (bound, ("not", ("goes", 2, X)), bound)), ["x"])
            self.lists((kind, "y", ("and", (bound, ("above", (0, (("x", 1), ("y", 1))))))), ["x"])

    def test_bound_in_one_part_and_free_in_the_next(self):
        parts = (("some", "x", ("above", (0, (("x", 1), ("y", 1))))), ("all", "y", ("above", (0, (("x", 1), ("y", 1))))))
        self.lists(("and", parts), ["x", "y"])

    def test_a_name_bound_twice_within_one_another(self):
        for kind in ("some", "all"):
            for other in ("some", "all"):
                inner = (other, "x", ("above", X))
                self.lists((kind, "x", inner), [])
                self.lists((kind, "x", ("and", (inner, ("above", X)))), [])
                self.lists((kind, "x", ("and", (inner, ("above", Y)))), ["y"])

    def test_a_bound_name_that_stands_nowhere(self):
        for kind in ("some", "all"):
            self.lists((kind, "x", TRUE), [])
            self.lists((kind, "x", ("above", Y)), ["y"])
            self.lists(("and", ((kind, "q", ("above", X)), ("above", Y))), ["x", "y"])

    def test_deep(self):
        one = ("and", (("above", X), ("some", "x", ("above", (0, (("x", 1), ("y", 1)))))))
        self.lists(mixed(37, one), ["x", "y"])
        self.lists(("all", "y", mixed(200, one)), ["x"])

    def test_a_told_list_is_the_askers_own(self):
        one = ("and", (("above", X), ("above", Y)))
        first = unknowns(one)
        first.append("q")
        first.remove("x")
        self.lists(one, ["x", "y"])
        second = unknowns(one)
        unknowns(("above", (0, (("z", 1),))))
        self.assertEqual(second, ["x", "y"])

    def test_the_statement_stays(self):
        one = ("some", "x", ("and", (("above", X), ("above", Y))))
        kept = copy.deepcopy(one)
        unknowns(one)
        self.assertEqual(one, kept)


class Put(unittest.TestCase):
    other = (4, (("x", 2), ("z", -1)))

    def test_through_each_kind(self):
        one = (1, (("x", 3), ("y", 2)))
        put_there = (13, (("x", 6), ("y", 2), ("z", -3)))
        for start in (("above",), ("nought",), ("goes", 5)):
            before, after = (*start, one), (*start, put_there)
            self.assertEqual(put(before, "x", self.other), after)
            self.assertEqual(put(("not", before), "x", self.other), ("not", after))
            for kind in ("and", "or"):
                self.assertEqual(put((kind, (before,)), "x", self.other), (kind, (after,)))
                parts = (("above", Y), before, TRUE, ("not", before), before)
                expected = (("above", Y), after, TRUE, ("not", after), after)
                self.assertEqual(put((kind, parts), "x", self.other), (kind, expected))

    def test_of_none(self):
        for one in (TRUE, FALSE, ("not", TRUE), ("or", (FALSE, TRUE))):
            self.assertEqual(put(one, "x", self.other), one)

    def test_a_sum_without_unknowns(self):
        one = ("and", (("above", (1, (("x", 3), ("y", 2)))), ("goes", 3, X), ("not", ("nought", Y))))
        expected = ("and", (("above", (-5, (("y", 2),))), ("goes", 3, (-2, ())), ("not", ("nought", Y))))
        self.assertEqual(put(one, "x", (-2, ())), expected)

    def test_the_number_of_goes_stays(self):
        self.assertEqual(put(("goes", 6, (0, (("x", 2),))), "x", (3, ())), ("goes", 6, (6, ())))
        self.assertEqual(put(("goes", GREAT, X), "x", (GREAT, ())), ("goes", GREAT, (GREAT, ())))

    def test_shares_that_cancel_each_other_out(self):
        self.assertEqual(put(("above", (1, (("x", 1), ("y", 2)))), "x", (3, (("y", -2),))), ("above", (4, ())))

    def test_an_unknown_that_stands_nowhere(self):
        for one in PLAIN:
            self.assertEqual(put(one, "q", self.other), one)

    def test_the_unknown_in_its_own_place(self):
        for one in PLAIN:
            self.assertEqual(put(one, "x", X), one)

    def test_deep(self):
        self.assertEqual(put(mixed(39, ("above", X)), "x", Y), mixed(39, ("above", Y)))
        self.assertEqual(put(mixed(200, ("above", X)), "x", Y), mixed(200, ("above", Y)))

    def test_some_or_all_anywhere(self):
        for bound in (SOME, EVERY, ("some", "y", TRUE)):
            for one in (bound, mixed(38, bound), *around(bound)):
                for name in ("x", "q"):
                    for kind in (NotPlain, SomeError, ValueError):
                        with self.assertRaises(kind) as caught:
                            put(one, name, self.other)
                        self.assertNotIsInstance(caught.exception, (NoValue, NoNote))

    def test_it_is_true_where_the_first_one_is_with_that_value(self):
        for one in PLAIN:
            for name in ("x", "y", "z"):
                for other in (self.other, (0, ()), (-3, (("y", 1),)), (GREAT, (("x", -1),))):
                    told = put(one, name, other)
                    for numbers in itertools.product((-3, 0, 1, 4), repeat=3):
                        values = dict(zip("xyz", numbers))
                        placed = {**values, name: value(other, values)}
                        self.assertIs(is_true(told, values), is_true(one, placed))

    def test_what_was_handed_in_stays(self):
        for one in PLAIN:
            kept = copy.deepcopy((one, self.other))
            first = put(one, "x", self.other)
            put(one, "x", Y)
            self.assertEqual(put(one, "x", self.other), first)
            self.assertEqual((one, self.other), kept)

    def test_it_tells_tuples_throughout(self):
        told = put(("and", (("or", (("above", X),)), ("not", ("goes", 2, X)))), "x", self.other)
        self.assertTrue(self.all_tuples(told))

    def all_tuples(self, thing):
        if isinstance(thing, (int, str)):
            return True
        return type(thing) is tuple and all(self.all_tuples(part) for part in thing)


if __name__ == "__main__":
    unittest.main()
