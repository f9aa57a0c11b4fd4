import unittest

from somenumber.statements import is_plain, is_true
from somenumber.taking import left, taken
from tests.reference import (
    FALSE, GREAT, TRUE, Draw, above, both, depth, either, every, free_names, goes, great_values, is_plain_statement,
    names_in, no, nots, nought, parts_of, small_values, some, some_number_makes, truth_within, within,
)

FEW = (-4, 0, 1, 7)


def nodes(statement):
    return [statement] + [one for part in parts_of(statement) for one in nodes(part)]


def truth(statement, values):
    """Whether a statement of one bound unknown, around a plain one, is true."""
    kind, name, inner = statement
    if kind == "some":
        return some_number_makes(name, inner, values)
    return not some_number_makes(name, no(inner), values)


class LeftTest(unittest.TestCase):
    def leave(self, one):
        told = left(one)
        self.assertTrue(is_plain_statement(told), told)
        self.assertIs(is_plain(told), True)
        self.assertLessEqual(depth(told), 40)
        self.assertLessEqual(names_in(told), free_names(one))
        return told

    def settled(self, one, expected):
        self.assertEqual(free_names(one), set())
        self.assertIs(is_true(self.leave(one), {}), expected, one)
        self.assertIs(is_true(self.leave(no(one)), {}), not expected, one)

    def same_as(self, one, expected, numbers=range(-9, 10)):
        """A statement of one free unknown z, asked at numbers."""
        told = self.leave(one)
        self.assertLessEqual(free_names(told), {"z"})
        for number in (*numbers, GREAT, -GREAT, GREAT - 1, GREAT + 1):
            self.assertIs(is_true(told, {"z": number}), expected(number), number)


class Plain(LeftTest):
    def test_plain_statements(self):
        draw = Draw(3)
        for _ in range(200):
            one = draw.plain("xyz", 4)
            told = self.leave(one)
            for _ in range(6):
                values = draw.values()
                self.assertIs(is_true(told, values), is_true(one, values), (one, values))

    def test_of_none(self):
        for one, expected in ((TRUE, True), (FALSE, False), (no(TRUE), False), (no(FALSE), True)):
            self.settled(one, expected)
            self.settled(some("x", one), expected)
            self.settled(every("x", one), expected)


class AtTheTop(LeftTest):
    def test_some(self):
        for inner in (
            both(above(0, x=2, y=-1), above(0, x=-3, z=1)),
            both(above(0, x=1, y=-1), above(4, x=-1, z=1), goes(3, 1, x=1, y=2)),
            either(nought(1, x=2, y=1), both(goes(4, 0, x=1, z=1), above(0, x=-1, y=1), above(3, x=1, y=-1))),
        ):
            for one in (some("x", inner), every("x", inner), some("x", no(inner)), every("x", no(inner))):
                told = self.leave(one)
                for values in small_values("yz", FEW) + great_values("yz"):
                    self.assertIs(is_true(told, values), truth(one, values), (one, values))

    def test_some_is_what_taken_tells(self):
        inner = both(above(0, x=2, y=-1), above(0, x=-3, z=1), goes(2, 0, x=1))
        told = self.leave(some("x", inner))
        for values in small_values("yz", range(-6, 9)):
            self.assertIs(is_true(told, values), is_true(taken("x", inner), values))

    def test_all(self):
        self.same_as(every("x", either(above(0, x=1, z=-1), above(3, x=-1))), lambda z: z < 3)
        self.same_as(every("x", either(above(0, x=1), above(0, x=-1), above(0, x=1, z=1))), lambda z: z > 0)
        self.same_as(every("x", goes(4, 0, x=4, z=1)), lambda z: z % 4 == 0)
        self.same_as(every("x", goes(4, 0, x=2, z=1)), lambda z: False)
        self.same_as(every("x", either(goes(2, 0, x=1), goes(2, 0, x=1, z=1))), lambda z: z % 2 == 1)

    def test_drawn_statements(self):
        draw = Draw(5)
        for _ in range(200):
            for kind in ("some", "all"):
                one = (kind, "x", draw.plain("xyz", 4))
                told = self.leave(one)
                for _ in range(5):
                    values = draw.values()
                    self.assertIs(is_true(told, values), truth(one, values), (one, values))


class WithinOneAnother(LeftTest):
    def test_settled_ones(self):
        between = some("z", both(above(0, z=1, x=-1), above(0, y=1, z=-1)))
        for one, expected in (
            (every("x", some("y", nought(0, x=1, y=1))), True),
            (some("y", every("x", nought(0, x=1, y=1))), False),
            (every("x", some("y", nought(0, x=1, y=2))), False),
            (every("x", some("y", either(nought(0, x=1, y=2), nought(1, x=1, y=2)))), True),
            (every("x", some("y", above(0, y=1, x=-1))), True),
            (some("y", every("x", above(0, y=1, x=-1))), False),
            (every("x", every("y", either(no(above(0, y=1, x=-1)), between))), False),
            (every("x", every("y", either(no(above(-1, y=1, x=-1)), between))), True),
            (some("x", some("y", both(nought(1, x=6, y=-15)))), False),
            (some("x", some("y", both(nought(3, x=6, y=-15)))), True),
            (every("x", either(goes(2, 0, x=1), some("y", nought(-1, x=1, y=-2)))), True),
            (some("x", every("y", either(above(0, y=1), above(0, x=1, y=-1)))), True),
            (some("x", both(above(0, x=1), every("y", either(no(above(0, y=1)), above(1, y=1, x=-1))))), True),
            (some("x", both(above(-1, x=1), every("y", either(no(above(0, y=1)), above(1, y=1, x=-1))))), False),
        ):
            self.settled(one, expected)

    def test_each_number_is_a_multiple_and_a_rest(self):
        rest = some("q", some("r", both(nought(0, x=1, q=-7, r=-1), above(1, r=1), above(7, r=-1))))
        self.settled(every("x", rest), True)
        short = some("q", some("r", both(nought(0, x=1, q=-7, r=-1), above(1, r=1), above(6, r=-1))))
        self.settled(every("x", short), False)
        self.same_as(some("q", both(above(1, z=1, q=-7), above(3, z=-1, q=7))), lambda z: z % 7 in (0, 1, 2))

    def test_coins(self):
        paid = some("a", some("b", some("c", both(
            above(1, a=1), above(1, b=1), above(1, c=1), nought(0, a=6, b=9, c=20, z=-1)))))
        sums = {6 * a + 9 * b + 20 * c for a in range(20) for b in range(14) for c in range(7)}
        self.same_as(paid, lambda z: z in sums if z < 100 else True, range(-5, 90))
        self.settled(every("z", either(above(44, z=-1), paid)), True)
        self.settled(every("z", either(above(43, z=-1), paid)), False)

    def test_the_same_name_bound_twice(self):
        inner = some("x", nought(-5, x=1))
        self.settled(some("x", both(nought(-3, x=1), inner)), True)
        self.settled(some("x", both(inner, nought(-3, x=1), no(nought(-5, x=1)))), True)
        self.settled(every("x", some("x", nought(0, x=1))), True)
        self.settled(some("x", every("x", nought(0, x=1))), False)
        self.settled(every("x", either(above(0, x=1), every("x", goes(1, 0, x=1)))), True)
        self.settled(some("x", both(above(0, x=1), every("x", either(above(0, x=1), some("x", above(0, x=-1)))))), True)
        self.same_as(some("x", both(nought(0, x=1, z=-2), some("x", nought(0, x=2, z=-1)))), lambda z: z % 2 == 0)

    def test_bound_names_that_stand_free_elsewhere(self):
        bound = some("z", both(nought(0, z=2, x=-1), above(0, z=1)))
        self.same_as(some("x", both(nought(0, x=1, z=-3), bound)), lambda z: z > 0 and z % 2 == 0)
        self.same_as(both(above(0, z=1), some("z", nought(3, z=1))), lambda z: z > 0)
        self.same_as(either(some("z", nought(1, z=2)), goes(3, 0, z=1)), lambda z: z % 3 == 0)
        self.same_as(both(every("z", either(above(0, z=1), above(1, z=-1))), no(goes(3, 0, z=1))), lambda z: z % 3 != 0)
        one = both(above(0, x=1), some("x", nought(0, x=1, y=-2)), above(0, y=1))
        told = self.leave(one)
        for values in small_values("xy"):
            self.assertIs(is_true(told, values), values["x"] > 0 and values["y"] > 0)

    def test_bound_names_that_stand_nowhere(self):
        for kind in (some, every):
            self.same_as(kind("q", above(0, z=1)), lambda z: z > 0)
            self.same_as(kind("z", kind("q", above(3))), lambda z: True)
            self.same_as(no(kind("q", goes(2, 0, z=1))), lambda z: z % 2 == 1)
            self.same_as(both(kind("q", above(0, z=1)), some("z", kind("q", nought(0, z=1)))), lambda z: z > 0)

    def test_deep_inside(self):
        bound = some("x", both(nought(0, x=2, z=-1), above(0, x=1)))
        for many in range(36):
            self.same_as(nots(many, bound), lambda z: (z > 0 and z % 2 == 0) == (many % 2 == 0), range(-3, 4))
        one = bound
        for level in range(37):
            one = (both(one, TRUE), either(FALSE, one), no(no(one)))[level % 3] if level < 30 else no(one)
        self.same_as(one, lambda z: not (z > 0 and z % 2 == 0), range(-3, 4))

    def test_many_bound_within_one_another(self):
        one = above(0, z=1, a=1, b=1)
        for level in range(39):
            one = ("all" if level % 3 else "some", "abc"[level % 3], one)
        self.assertEqual(depth(one), 40)
        self.leave(one)
        one = both(nought(0, a=1, z=-1))
        for level in range(38):
            one = some("abcdefgh"[level % 8], one)
        self.same_as(one, lambda z: True)

    def test_drawn_statements_one_bound_unknown_after_the_other(self):
        draw = Draw(21)
        for _ in range(150):
            for one in nodes(draw.statement("xyz", 6)):
                if one[0] not in ("some", "all"):
                    continue
                told = self.leave(one)
                inner = (one[0], one[1], left(one[2]))
                for _ in range(3):
                    values = draw.values()
                    self.assertIs(is_true(told, values), truth(inner, values), (one, values))

    def test_drawn_statements_against_numbers_within_bounds(self):
        draw = Draw(22)
        for _ in range(200):
            one = draw.statement("xyz", 5)
            told = self.leave(within(-3, 3, one))
            for _ in range(4):
                values = {name: draw.random.randint(-7, 7) for name in "xyz"}
                self.assertIs(is_true(told, values), truth_within(-3, 3, one, values), (one, values))

    def test_some_and_all_by_turns_within_bounds(self):
        inner = either(both(above(0, a=2, b=-1, z=1), goes(3, 1, b=1, c=1)), both(above(1, c=1, b=-2), nought(0, a=1, z=-1, c=1)))
        for kinds in (("some", "all", "some"), ("all", "some", "all"), ("all", "all", "some"), ("some", "some", "some")):
            one = inner
            for kind, name in zip(kinds, "abc"):
                one = (kind, name, one)
            told = self.leave(within(-2, 2, one))
            for z in range(-7, 8):
                self.assertIs(is_true(told, {"z": z}), truth_within(-2, 2, one, {"z": z}))


class AskedAgain(LeftTest):
    def test_it_tells_the_same(self):
        one = every("x", either(no(above(0, x=1)), some("y", both(nought(0, x=1, y=-2, z=1)))))
        first = left(one)
        left(no(one))
        left(one[2])
        self.assertEqual(left(one), first)

    def test_beyond_forty(self):
        one = some("x", both(nought(0, x=2, z=-1), above(0, x=1)))
        self.same_as(nots(101, one), lambda z: not (z > 0 and z % 2 == 0), range(-3, 4))


if __name__ == "__main__":
    unittest.main()
