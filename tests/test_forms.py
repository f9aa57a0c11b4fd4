"""The forms that the package brings statements into on the way; a promise rests on each."""

import unittest

from somenumber.depths import shallow
from somenumber.notes import MOST_WITHIN, read, written
from somenumber.rests import inverse, meeting
from somenumber.simple import contrary, put_simply, simple
from somenumber.slimming import slimmed
from somenumber.statements import is_true
from somenumber.taking import left, straight
from somenumber.trees import joined, opposite, periods
from tests.reference import (
    FALSE, TRUE, Draw, above, both, depth, either, goes, is_plain_statement, names_in, no, nought, small_values,
)


class Rests(unittest.TestCase):
    def test_inverse(self):
        for modulus in range(2, 40):
            for number in range(-50, 50):
                told = inverse(number, modulus)
                self.assertIn(told, range(modulus))
                coprime = any(number * other % modulus == 1 for other in range(modulus))
                if coprime:
                    self.assertEqual(number * told % modulus, 1)
        self.assertEqual(inverse(5, 1), 0)

    def test_meeting(self):
        for modulus in range(1, 13):
            for by in range(1, 13):
                for rest in range(modulus):
                    for wanted in range(by):
                        told = meeting((rest, modulus), (wanted, by))
                        expected = [x for x in range(modulus * by) if x % modulus == rest and x % by == wanted]
                        if told is None:
                            self.assertEqual(expected, [])
                        else:
                            found = [x for x in range(modulus * by) if (x - told[0]) % told[1] == 0]
                            self.assertEqual(found, expected)


class Simple(unittest.TestCase):
    def same(self, told, one):
        self.assertTrue(is_plain_statement(told), told)
        self.assertLessEqual(names_in(told), names_in(one))
        for values in small_values(names_in(one), range(-6, 7)):
            self.assertIs(is_true(told, values), is_true(one, values), (one, values))

    def test_goes(self):
        for divisor in range(1, 13):
            for many in range(-4, 13):
                for other in (0, 1, 4, 5, 6, 10):
                    one = goes(divisor, 5, x=many, y=other)
                    self.same(simple(one), one)
                    one = goes(divisor, 2, x=many, y=other)
                    self.same(straight(one), one)

    def test_above_and_nought(self):
        for number in range(-7, 8):
            for many in (1, -1, 2, -2, 3, -6):
                for other in (0, 2, -4, 3):
                    for one in (above(number, x=many, y=other), nought(number, x=many, y=other)):
                        self.same(simple(one), one)
                        if simple(one) not in (TRUE, FALSE):
                            self.same(contrary(simple(one)), no(one))

    def test_what_says_the_same_is_mostly_equal(self):
        for one, other in (
            (above(3, x=2, y=-4), above(2, x=1, y=-2)),
            (nought(-2, x=2, y=4), nought(3, x=-3, y=-6)),
            (goes(5, 3, x=2), goes(5, 4, x=1)),
            (goes(6, 2, x=4, y=2), goes(3, 1, x=2, y=1)),
            (goes(4, 1, x=3, y=8), goes(4, 3, x=1)),
        ):
            self.assertEqual(simple(one), simple(other))

    def test_a_divided_sum_in_the_place_of_an_unknown(self):
        place = (2, (("y", 4),))
        for one in (above(1, x=3, z=1), nought(-3, x=-2, z=1), goes(6, 1, x=3, z=2), no(goes(4, 1, x=1, y=1))):
            told = put_simply(simple(one) if one[0] != "not" else no(simple(one[1])), "x", 2, place)
            for values in small_values("yz", range(-6, 7)):
                self.assertIs(is_true(told, values), is_true(one, {**values, "x": 1 + 2 * values["y"]}))


class Periods(unittest.TestCase):
    def test_of_simple_ones(self):
        for one, expected in (
            (above(1, x=2), 1), (no(nought(1, x=1)), 1), (goes(6, 1, x=1), 6), (goes(6, 1, x=4), 3), (goes(6, 1, y=1), 1),
            (no(goes(4, 1, x=1)), 4),
        ):
            self.assertEqual(periods("x", one), [expected])

    def test_of_each_choice_of_parts(self):
        two, three, four, five = [goes(divisor, 0, x=1, y=1) for divisor in (2, 3, 4, 5)]
        for one, expected in (
            (both(two, three, above(0, x=1)), [6]),
            (either(two, three, above(0, x=1)), [1, 2, 3]),
            (both(two, either(three, four)), [4, 6]),
            (both(either(two, three), either(four, five)), [4, 10, 12, 15]),
            (either(both(two, either(three, five)), four, both(three, four)), [4, 6, 10, 12]),
            (either(two, no(goes(2, 0, x=1)), both(two, two)), [2]),
            (TRUE, [1]),
            (FALSE, []),
            (both(two, FALSE), []),
            (nought(1, x=1, y=1), []),
            (nought(1, y=1), [1]),
            (both(two, nought(1, x=2)), []),
            (either(two, both(three, nought(1, x=1)), no(nought(1, x=1))), [1, 2]),
            (both(either(four, nought(0, x=1)), either(three, nought(1, x=1, y=1))), [12]),
        ):
            self.assertEqual(periods("x", one), expected)


class Slimmed(unittest.TestCase):
    def formed(self, statement):
        """The statement in simple ones, joined by "and" and "or" alone."""
        if statement[0] == "not":
            return opposite(self.formed(statement[1]))
        if statement[0] in ("and", "or"):
            return joined(statement[0], [self.formed(part) for part in statement[1]])
        return simple(statement)

    def same(self, one, values):
        told = slimmed(self.formed(one))
        self.assertTrue(is_plain_statement(told))
        self.assertLessEqual(names_in(told), names_in(one))
        for each in values:
            self.assertIs(is_true(told, each), is_true(one, each), (one, each))
        return told

    def test_drawn_statements_of_one_sum(self):
        draw = Draw(71)
        values = small_values("xy", range(-7, 8))
        for _ in range(300):
            few = []
            for _ in range(6):
                number = draw.random.randint(-4, 4)
                many = draw.random.choice((1, -1))
                kind = draw.random.choice((above, nought, above, lambda n, **s: goes(draw.random.randint(2, 4), n, **s)))
                few.append(kind(number, x=many, y=-many))
            self.same(draw.of_few(few, draw.random.randint(2, 4)), values)

    def test_drawn_statements(self):
        draw = Draw(72)
        values = small_values("xyz", (-5, -2, -1, 0, 1, 2, 4))
        for _ in range(100):
            self.same(draw.of_few([draw.over_sum("xyz", 2) for _ in range(5)], 4), values)

    def test_what_settles_a_statement(self):
        for one, expected in (
            (both(above(0, x=1), above(0, x=-1)), False),
            (either(above(0, x=1), above(1, x=-1)), True),
            (both(above(0, x=1), above(3, x=-1), no(nought(-1, x=1)), no(nought(-2, x=1))), False),
            (both(goes(4, 1, x=1), goes(4, 2, x=1)), False),
            (either(goes(3, 0, x=1), goes(3, 1, x=1), goes(3, 2, x=1)), True),
            (both(nought(0, x=1, y=1), either(above(0, x=1, y=1), nought(1, x=1, y=1))), False),
            (either(no(goes(5, 0, x=1)), both(goes(5, 0, x=2), either(above(0, y=1), above(1, y=-1)))), True),
        ):
            told = self.same(one, small_values("xy", range(-7, 8)))
            self.assertEqual(told, TRUE if expected else FALSE)


class Shallow(unittest.TestCase):
    def nested(self, draw, deep, kind, wide):
        if deep == 1:
            return draw.random.choice((above(draw.random.randint(-2, 2), x=1, y=draw.random.randint(1, 2)), goes(3, 1, x=1)))
        if deep == 2 and draw.random.random() < 0.3:
            return no(nought(1, x=1, y=draw.random.randint(1, 3)))
        other = "or" if kind == "and" else "and"
        parts = [self.nested(draw, deep - 1, other, wide)]
        for _ in range(draw.random.randint(1, wide)):
            parts.append(self.nested(draw, draw.random.randint(1, min(3, deep - 1)), other, wide))
        draw.random.shuffle(parts)
        return (kind, tuple(parts))

    def test_no_more_within_one_another(self):
        draw = Draw(81)
        for number in range(400):
            deep = draw.random.randint(5, 12)
            one = self.nested(draw, deep, ("and", "or")[number % 2], 1 + number % 2)
            self.assertEqual(depth(one), deep)
            for most in range(max(4, deep - 3), deep + 1):
                told = shallow(one, most)
                self.assertTrue(is_plain_statement(told))
                self.assertLessEqual(depth(told), most)
                for values in small_values("xy", (-4, -1, 0, 1, 2, 3)):
                    self.assertIs(is_true(told, values), is_true(one, values))

    def test_what_is_not_too_deep_stays(self):
        draw = Draw(82)
        for number in range(50):
            one = self.nested(draw, 6, ("and", "or")[number % 2], 1)
            self.assertEqual(shallow(one, 6), one)
            self.assertEqual(shallow(one, 40), one)

    def test_down_to_the_fewest(self):
        draw = Draw(83)
        for number in range(60):
            one = self.nested(draw, 9, ("and", "or")[number % 2], 1)
            told = shallow(one, 4)
            self.assertLessEqual(depth(told), 4)
            for values in small_values("xy", range(-5, 6)):
                self.assertIs(is_true(told, values), is_true(one, values))

    def test_what_forty_within_one_another_tell_can_be_read(self):
        draw = Draw(84)
        for number in range(30):
            one = self.nested(draw, MOST_WITHIN, ("and", "or")[number % 2], 1)
            for told in (straight(one), left(one)):
                self.assertEqual(read(written(told)), told)
                for values in small_values("xy", (-4, -1, 0, 1, 3)):
                    self.assertIs(is_true(told, values), is_true(one, values))


if __name__ == "__main__":
    unittest.main()
