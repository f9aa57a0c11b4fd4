import unittest

from somenumber.errors import NoNote, NotPlain, NoValue, SomeError
from somenumber.statements import is_true, put
from somenumber.taking import straight
from tests.reference import (
    FALSE, GREAT, TRUE, Draw, above, both, depth, either, every, free_names, goes, great_values, is_plain_statement,
    is_straight, names_in, no, nots, nought, small_values, some,
)

SIMPLE = (
    above(1, x=2, y=-3),
    above(0, x=1),
    above(0, x=4, y=-6),
    nought(0, x=1),
    nought(-2, x=1, z=1),
    nought(3, x=2, y=4),
    goes(1, 5, x=1),
    goes(2, 1, x=1),
    goes(4, 1, x=3, y=2),
    goes(6, -3, x=-9, y=3),
    goes(6, 1, x=2, y=4),
)
CONSTANT = (
    TRUE, FALSE, above(1), above(0), above(-1), nought(0), nought(1), nought(-1), goes(3, 6), goes(3, 7), goes(1, 0),
)
JOINED = (
    both(above(0, x=1), nought(0, y=1), goes(2, 5, z=1)),
    either(above(0, x=1), nought(0, y=1), goes(2, 5, z=1)),
    both(either(), above(0, x=1)),
    either(both(), above(0, x=1)),
    either(no(above(0, x=1)), both(nought(0, y=1), either(goes(5, 0, x=1), no(nought(2, z=1)), FALSE))),
    no(both(either(nought(0, x=1), above(1, y=1)), no(both(goes(3, 0, x=1), no(nought(1, y=1)))))),
)


class Straight(unittest.TestCase):
    def holds_for(self, one):
        told = straight(one)
        self.assertTrue(is_plain_statement(told), told)
        self.assertTrue(is_straight(told), told)
        self.assertLessEqual(names_in(told), names_in(one))
        for values in small_values(names_in(one)) + great_values(names_in(one)):
            self.assertIs(is_true(told, values), is_true(one, values), (one, values))
        return told

    def test_each_kind_under_not(self):
        for one in (*SIMPLE, *CONSTANT, *JOINED):
            for many in range(4):
                self.holds_for(nots(many, one))

    def test_sums_around_nought(self):
        for kind in (lambda one: ("above", one), lambda one: ("nought", one), lambda one: ("goes", 2, one)):
            for many in range(4):
                told = straight(nots(many, kind((0, (("x", 1),)))))
                alone = straight(nots(many, kind((0, (("x", 3), ("y", -2))))))
                for number in (-1, 0, 1):
                    expected = is_true(nots(many, kind((number, ()))), {})
                    self.assertIs(is_true(told, {"x": number}), expected)
                    for values in ({"x": number, "y": number}, {"x": GREAT * 2 + number, "y": GREAT * 3 + number}):
                        self.assertIs(is_true(alone, values), expected)
                    self.assertIs(is_true(straight(nots(many, kind((number, ())))), {}), expected)

    def test_nought_and_not_nought(self):
        for one in (nought(0, x=1), nought(7, x=-3, y=2), nought(GREAT, x=1)):
            for many in range(4):
                told = self.holds_for(nots(many, one))
                for number in range(-3, 4):
                    values = {"x": number - GREAT, "y": 0}
                    self.assertIs(is_true(told, values), is_true(nots(many, one), values))

    def test_and_and_or_of_none(self):
        self.assertIs(is_true(straight(TRUE), {}), True)
        self.assertIs(is_true(straight(FALSE), {}), False)
        self.assertIs(is_true(straight(no(TRUE)), {}), False)
        self.assertIs(is_true(straight(no(FALSE)), {}), True)

    def test_drawn_statements(self):
        draw = Draw(7)
        for _ in range(300):
            one = draw.plain("xyz", 4)
            told = straight(one)
            self.assertTrue(is_plain_statement(told) and is_straight(told), told)
            self.assertLessEqual(names_in(told), names_in(one))
            for _ in range(8):
                values = draw.values()
                self.assertIs(is_true(told, values), is_true(one, values), (one, values))

    def test_forty_within_one_another(self):
        for bottom in (nought(1, x=2, y=3), nots(1, nought(1, x=2, y=3)), nots(1, goes(3, 1, x=1, y=1))):
            for first in (0, 1):
                one = bottom
                level = 0
                while depth(one) < 40:
                    side = above(level % 9 - 4, x=level % 5 - 2, y=1)
                    one = (both, either)[(level + first) % 2](side, one)
                    level += 1
                told = straight(one)
                self.assertTrue(is_straight(told))
                self.assertLessEqual(depth(told), 40)
                for values in small_values("xy") + great_values("xy"):
                    self.assertIs(is_true(told, values), is_true(one, values))

    def test_forty_within_one_another_with_many_parts_at_the_bottom(self):
        for first in (0, 1):
            noughts = tuple(nought(number, x=number, y=-1) for number in range(1, 21))
            one = (either, both)[first](*(noughts if first == 0 else map(no, noughts)))
            level = 0
            while depth(one) < 40:
                one = (both, either)[(level + first) % 2](above(level - 9, x=1, z=level % 3 - 1), one)
                level += 1
            told = straight(one)
            self.assertTrue(is_straight(told))
            self.assertLessEqual(depth(told), 40)
            for values in small_values("xyz", (-3, 0, 1, 5)):
                self.assertIs(is_true(told, values), is_true(one, values))

    def test_beyond_forty(self):
        for many in (41, 100, 200):
            told = straight(nots(many, nought(0, x=1)))
            for number in (-1, 0, 1):
                self.assertIs(is_true(told, {"x": number}), (number == 0) == (many % 2 == 0))

    def test_numbers_of_goes_beyond_the_limit_raise_nothing(self):
        for one in (goes(0, 0, x=1), goes(-3, 1, x=1), no(goes(0, 1, x=2))):
            self.holds_for(one)

    def test_not_plain(self):
        for bound in (some("x", above(0, x=1)), every("x", above(0, x=1)), some("x", TRUE)):
            around = (bound, no(bound), both(TRUE, bound), either(TRUE, bound), both(FALSE, nots(3, bound)))
            for one in (*around, nots(38, bound)):
                for kind in (NotPlain, SomeError, ValueError):
                    with self.assertRaises(kind) as caught:
                        straight(one)
                    self.assertNotIsInstance(caught.exception, (NoValue, NoNote))

    def test_asked_again_it_tells_the_same(self):
        for one in JOINED:
            first = straight(one)
            straight(no(one))
            put(one, "x", (0, (("y", 1),)))
            self.assertEqual(straight(one), first)

    def test_no_other_unknowns(self):
        self.assertEqual(free_names(straight(both(above(1), nought(0)))), set())


if __name__ == "__main__":
    unittest.main()
