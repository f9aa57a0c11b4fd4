"""Barred numbers beside an "or" of parts with steps of their own: [8], [9] and [10]."""

import unittest

from somenumber.statements import is_true, put
from somenumber.taking import left, taken
from somenumber.telling import holds, told
from tests.reference import (
    GREAT, Draw, above, both, depth, either, every, goes, is_plain_statement, names_in, no, nought, small_values, some,
    some_number_makes,
)

FAR = 100000


def turned(one):
    return put(one, "x", (0, (("x", -1),)))


class Barred(unittest.TestCase):
    def answers(self, one, values):
        """What each function tells of whether some number, as x, makes it true; all have to agree."""
        asked = some_number_makes("x", one, values)
        for each in (one, turned(one), no(no(one))):
            self.assertIs(is_true(self.take(each), values), asked, (each, values))
            self.assertIs(is_true(left(some("x", each)), values), asked, (each, values))
            self.assertIs(is_true(left(every("x", no(each))), values), not asked, (each, values))
            self.assertIs(holds(some("x", each), values), asked, (each, values))
            self.assertIs(holds(every("x", no(each)), values), not asked, (each, values))
            number = told("x", each, values)
            self.assertIs(number is not None, asked, (each, values))
            if asked:
                self.assertIs(is_true(each, {**values, "x": number}), True)
        return asked

    def take(self, one):
        gone = taken("x", one)
        self.assertTrue(is_plain_statement(gone))
        self.assertLessEqual(depth(gone), 40)
        self.assertLessEqual(names_in(gone), names_in(one) - {"x"})
        return gone


def by_steps(first, others, last):
    """From y on, the first number goes into x - y; or x is above w, and others go into it beside z; last is a bound."""
    near = both(above(1, x=1, y=-1), goes(first, 0, x=1, y=-1))
    far = [both(above(0, x=1, w=-1), goes(other, at, x=1, z=1)) for at, other in enumerate(others)]
    return both(either(near, *far), above(last + 1, x=-1, y=1))


class OneStep(Barred):
    def test_the_only_number_lies_a_step_behind_the_barred_one(self):
        for first in range(2, 8):
            for other in range(2, 8):
                one = both(no(nought(0, x=1, v=-1)), by_steps(first, (other,), first))
                for y in (0, -3, GREAT):
                    values = {"y": y, "v": y, "w": y + FAR, "z": 1}
                    self.assertIs(self.answers(one, values), True)
                    one_less = both(no(nought(0, x=1, v=-1)), by_steps(first, (other,), first - 1))
                    self.assertIs(self.answers(one_less, values), False)

    def test_more_than_two_parts(self):
        for first, others in ((2, (3, 5)), (3, (2, 4)), (4, (6, 9)), (6, (4, 9)), (5, (2, 3, 7)), (4, (2, 8))):
            one = both(no(nought(0, x=1, v=-1)), by_steps(first, others, first))
            for v in range(-1, 2):
                self.assertIs(self.answers(one, {"y": 0, "v": v, "w": FAR, "z": 0}), True)

    def test_several_barred_one_behind_the_other(self):
        for first, other in ((2, 3), (3, 2), (4, 6), (2, 5)):
            for many in range(1, 5):
                bars = [no(nought(-first * at, x=1, v=-1)) for at in range(many)]
                for last, expected in ((first * many, True), (first * many - 1, False)):
                    one = both(*bars, by_steps(first, (other,), last))
                    self.assertIs(self.answers(one, {"y": 4, "v": 4, "w": FAR, "z": 0}), expected)

    def test_shares(self):
        for many in (2, 3, -2, -5):
            for first, other in ((2, 3), (3, 4), (4, 2)):
                one = both(no(nought(0, x=many, v=-1)), by_steps(first, (other,), first))
                self.assertIs(self.answers(one, {"y": 3, "v": 3 * many, "w": FAR, "z": 1}), True)
        # Of two into 2 x, and of six into 4 x, the steps are 1 and 3.
        for divisor, many, step in ((2, 2, 1), (6, 4, 3), (12, 8, 3), (8, 6, 4)):
            near = both(above(1, x=1, y=-1), goes(divisor, 0, x=many, y=-many))
            far = both(above(0, x=1, w=-1), goes(5, 0, x=1, z=1))
            for last, expected in ((step, True), (step - 1, False)):
                one = both(no(nought(0, x=1, v=-1)), either(near, far), above(last + 1, x=-1, y=1))
                self.assertIs(self.answers(one, {"y": 1, "v": 1, "w": FAR, "z": 0}), expected)

    def test_steps_of_several_ors(self):
        for (a, b), (c, d) in (((2, 3), (5, 7)), ((2, 4), (3, 9)), ((4, 6), (2, 3)), ((3, 5), (4, 1))):
            first = either(goes(a, 0, x=1, y=-1), both(above(0, x=1, w=-1), goes(b, 0, x=1, z=1)))
            second = either(goes(c, 0, x=1, y=-1), both(above(0, x=1, w=-1), goes(d, 1, x=1, z=1)))
            least = next(step for step in range(1, a * c + 1) if step % a == 0 and step % c == 0)
            for last, expected in ((least, True), (least - 1, False)):
                bounds = (above(1, x=1, y=-1), above(last + 1, x=-1, y=1))
                one = both(first, no(nought(0, x=1, v=-1)), second, *bounds)
                self.assertIs(self.answers(one, {"y": 2, "v": 2, "w": FAR, "z": 0}), expected)

    def test_ors_within_one_another(self):
        inner = by_steps(3, (2,), 6)
        for deeper in (inner, either(inner, both(above(0, x=1, w=-1), either(goes(7, 0, x=1), goes(4, 1, x=1, z=1))))):
            for bars in ((0,), (0, 3)):
                barred = [no(nought(-number, x=1, v=-1)) for number in bars]
                far = both(above(0, x=1, w=-1), goes(5, 0, x=1, z=1))
                one = both(either(both(deeper, *barred), far), above(9, x=-1, y=1))
                self.assertIs(self.answers(one, {"y": 0, "v": 0, "w": FAR, "z": 0}), True)
        one = both(either(both(inner, no(nought(0, x=1, v=-1))), nought(0, x=1, w=-1)), no(nought(-3, x=1, v=-1)))
        self.assertIs(self.answers(one, {"y": 0, "v": 0, "w": FAR, "z": 0}), True)

    def test_barred_in_one_part_alone(self):
        near = both(above(1, x=1, y=-1), goes(2, 0, x=1, y=-1), no(nought(0, x=1, v=-1)))
        far = both(above(0, x=1, w=-1), goes(3, 0, x=1, z=1), no(nought(0, x=1, u=-1)))
        one = both(either(near, far), above(3, x=-1, y=1))
        for values in small_values("uvwz", (-4, -1, 0, 2)):
            self.answers(one, {**values, "y": 0})


class Told(Barred):
    """One number is told for x in each part, or in some of them, so that no step is to be gone there."""

    def test_in_each_part(self):
        rests = both(either(goes(2, 0, x=1, z=1), goes(3, 1, x=1)), either(goes(4, 0, x=1), goes(5, 1, x=1, z=1)))
        points = either(nought(0, x=1, y=-1), nought(0, x=2, u=-1))
        one = both(points, no(nought(0, x=1, v=-1)), rests)
        for values in small_values("uvyz", (-4, 0, 4, 7)):
            self.answers(one, values)

    def test_in_some_parts(self):
        near = both(above(1, x=1, y=-1), goes(2, 0, x=1, y=-1))
        far = both(nought(-1, x=1, w=-1), goes(3, 0, x=1, z=1), no(nought(2, x=1, y=-1)))
        one = both(either(near, far), no(nought(0, x=1, v=-1)), above(3, x=-1, y=1))
        for values in small_values("vwyz", (-3, 0, 1, 2)):
            self.answers(one, values)

    def test_of_another_unknown(self):
        near = both(above(1, x=1, y=-1), goes(2, 0, x=1, y=-1), nought(0, u=1))
        far = both(above(0, x=1, w=-1), goes(3, 0, x=1, z=1), nought(0, t=1, u=1))
        one = both(either(near, far), no(nought(0, x=1, v=-1)), above(3, x=-1, y=1))
        for values in small_values("tuvw", (-1, 0, 1, 2)):
            self.answers(one, {**values, "y": 0, "z": 0})
        self.assertIs(self.answers(one, {"t": 1, "u": 0, "v": 0, "w": FAR, "y": 0, "z": 0}), True)

    def test_many_steps_that_are_not_gone(self):
        divisors = (2, 3, 5, 7, 11, 13, 17, 19, 23, 29, 31, 37, 41, 43, 47, 53)
        ors = [either(goes(one, 0, x=1, z=1), goes(other, 0, x=1, w=1)) for one, other in zip(divisors[::2], divisors[1::2])]
        points = either(nought(0, x=1, y=-1), nought(0, x=1, u=-1))
        gone = self.take(both(points, no(nought(0, x=1, v=-1)), *ors))
        for values, expected in (
            ({"y": 4, "z": -4, "w": 1, "u": 9, "v": 0}, True), ({"y": 4, "z": -4, "w": 1, "u": 9, "v": 4}, False),
            ({"y": 9, "z": -4, "w": 1, "u": 4, "v": 9}, True), ({"y": 9, "z": 1, "w": -9, "u": 9, "v": 8}, True),
            ({"y": 9, "z": 1, "w": 1, "u": 8, "v": 7}, False),
        ):
            self.assertIs(is_true(gone, values), expected, values)


class Reported(Barred):
    nested = both(
        no(no(both(either(above(3, a=1, o=1), goes(4, 2, a=2, h=1, o=2)), above(-1, a=-1, h=-2, o=2)))),
        no(nought(4, a=1, h=-1, o=2)),
    )

    def test_beside_two_that_are_free(self):
        gone = taken("a", self.nested)
        self.assertIs(is_true(gone, {"h": 7, "o": 5}), True)
        for values in small_values("ho", range(-9, 10)):
            self.assertIs(is_true(gone, values), some_number_makes("a", self.nested, values), values)

    def test_of_all_of_two_others(self):
        one = both(no(nought(0, v=-1, x=1)), by_steps(2, (3,), 2))
        self.assertIs(is_true(taken("x", one), {"y": 0, "v": 0, "w": 100, "z": 0}), True)
        for w in (-5, 0, 100):
            self.assertIs(holds(every("y", every("v", some("x", one))), {"w": w, "z": 0}), True)
            self.assertIsNone(told("v", every("x", no(one)), {"y": 0, "w": w, "z": 0}))


class Drawn(Barred):
    def test_drawn_statements(self):
        draw = Draw(61)
        for number in range(600):
            one = draw.barred(1 + number % 2)
            for each in (one, turned(one)):
                gone = self.take(each)
                for z in range(-8, 9):
                    values = {"y": 0, "z": z}
                    self.assertIs(is_true(gone, values), some_number_makes("x", one, values), (each, values))

    def test_drawn_statements_all_ways(self):
        draw = Draw(62)
        for _ in range(60):
            one = draw.barred(2)
            for _ in range(3):
                self.answers(one, {name: draw.random.randint(-6, 6) for name in "yz"})

    def test_drawn_statements_with_great_values(self):
        draw = Draw(63)
        for _ in range(100):
            one = draw.barred(2)
            gone = self.take(one)
            for z in range(-8, 9):
                values = {"y": GREAT, "z": GREAT + z}
                self.assertIs(is_true(gone, values), some_number_makes("x", one, values), (one, values))


if __name__ == "__main__":
    unittest.main()
