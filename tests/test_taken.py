import unittest

from somenumber.errors import NoNote, NotPlain, NoValue, SomeError
from somenumber.statements import is_true
from somenumber.taking import taken
from tests.reference import (
    FALSE, GREAT, TRUE, Draw, above, both, depth, either, every, goes, great_values, is_plain_statement, names_in, no,
    nots, nought, small_values, some, some_number_makes,
)

FEW = (-5, -1, 0, 2, 7)


class Taken(unittest.TestCase):
    def take(self, name, one):
        told = taken(name, one)
        self.assertTrue(is_plain_statement(told), told)
        self.assertLessEqual(depth(told), 40)
        self.assertLessEqual(names_in(told), names_in(one) - {name})
        return told

    def holds_for(self, one, name="x"):
        told = self.take(name, one)
        others = names_in(one) - {name}
        for values in small_values(others, FEW) + great_values(others):
            self.assertIs(is_true(told, values), some_number_makes(name, one, values), (one, values))
        return told


class WhereTheUnknownStands(Taken):
    def test_above_something(self):
        for many in (1, 2, 5):
            self.assertIs(is_true(self.holds_for(above(3, x=many, y=-2)), {"y": GREAT}), True)

    def test_below_something(self):
        for many in (-1, -2, -5):
            self.assertIs(is_true(self.holds_for(above(3, x=many, y=-2)), {"y": GREAT}), True)

    def test_above_and_below(self):
        for low in (1, 2, 3, 7):
            for high in (-1, -2, -3, -5):
                self.holds_for(both(above(1, x=low, y=-1), above(-1, x=high, z=1)))
                self.holds_for(both(above(1, x=low, y=-2), above(4, x=high, y=3)))

    def test_between_neighbours(self):
        told = self.holds_for(both(above(0, x=1, y=-1), above(0, x=-1, z=1)))
        for y, z, expected in ((0, 1, False), (0, 2, True), (5, 5, False), (GREAT, GREAT + 2, True), (3, -3, False)):
            self.assertIs(is_true(told, {"y": y, "z": z}), expected)

    def test_between_multiples(self):
        told = self.holds_for(both(above(0, x=3, y=-1), above(0, x=-3, z=1)))
        for y in range(-7, 8):
            for z in range(-7, 8):
                expected = any(y < 3 * x < z for x in range(-5, 6))
                self.assertIs(is_true(told, {"y": y, "z": z}), expected)

    def test_in_no_sum(self):
        for one in (above(1, y=1), both(nought(0, y=1), goes(2, 0, z=1)), TRUE, FALSE, above(0), goes(3, 3)):
            self.holds_for(one)

    def test_alone(self):
        for one, expected in (
            (above(-100, x=1), True),
            (nought(4, x=2), True),
            (nought(3, x=2), False),
            (goes(6, 3, x=4), False),
            (goes(6, 2, x=4), True),
            (both(above(-1, x=2), above(3, x=-2)), True),
            (both(above(-2, x=2), above(4, x=-2)), False),
            (no(goes(1, 0, x=1)), False),
            (both(goes(2, 0, x=1), goes(3, 1, x=1), goes(5, 2, x=1)), True),
            (both(goes(2, 0, x=1), goes(4, 1, x=1)), False),
        ):
            self.assertIs(is_true(self.holds_for(one), {}), expected)

    def test_equal_to_something(self):
        for many in (1, -1, 2, -3, 6):
            self.holds_for(nought(1, x=many, y=2))
            self.holds_for(both(nought(1, x=many, y=2), above(0, x=2, z=1), goes(3, 0, x=1, z=1)))
        self.holds_for(both(nought(1, x=2, y=1), nought(-1, x=3, z=1)))
        self.holds_for(both(nought(1, x=GREAT, y=3), above(0, x=1, z=1)))

    def test_not_equal_to_something(self):
        self.holds_for(no(nought(0, x=1, y=1)))
        inside = both(above(0, x=1, y=-1), above(4, x=-1, y=1))
        for barred in range(5):
            parts = [no(nought(-number, x=1, y=-1)) for number in range(1, 1 + barred)]
            self.holds_for(both(inside, *parts))
        self.holds_for(both(above(0, x=1, y=-1), above(3, x=-1, y=1), no(nought(0, x=2, z=1))))


class SharesAndNumbers(Taken):
    def test_shares(self):
        for many in (1, -1, 2, -2, 3, 4, -5, 12):
            for one in (above(1, x=many, y=1), nought(1, x=many, y=1), goes(6, 1, x=many, y=1)):
                self.holds_for(one)
                self.holds_for(no(one))
                self.holds_for(both(one, above(0, x=1, z=1), above(5, x=-2, z=-1)))

    def test_one_number_that_goes_into_sums(self):
        for divisor in (1, 2, 3, 4, 6, 10):
            for many in (1, -1, 2, 3):
                self.holds_for(goes(divisor, 1, x=many, y=1))
                self.holds_for(both(goes(divisor, 1, x=many, y=1), above(0, x=1, y=-1), above(4, x=-1, z=1)))
                self.holds_for(both(no(goes(divisor, 1, x=many, y=1)), above(0, x=1, y=-1), above(3, x=-1, z=1)))

    def test_several_numbers_that_go_into_sums(self):
        self.holds_for(both(goes(2, 0, x=1, y=1), goes(3, 1, x=1, z=1)))
        self.holds_for(both(goes(4, 0, x=1, y=1), goes(6, 1, x=1, z=1)))
        self.holds_for(both(goes(4, 0, x=2, y=1), goes(6, 1, x=3, z=1), no(goes(5, 0, x=1, y=1))))
        self.holds_for(both(no(goes(2, 0, x=1, y=1)), no(goes(3, 1, x=1, z=1)), no(goes(2, 1, x=1, z=1))))
        self.holds_for(both(goes(2, 0, x=1, y=1), goes(3, 1, x=2, z=1), above(0, x=2, y=-1), above(0, x=-1, z=1)))
        self.holds_for(either(both(goes(2, 0, x=1, y=1), goes(4, 1, x=1, z=1)), both(goes(5, 0, x=5, y=1))))
        self.holds_for(both(either(goes(2, 0, x=1, y=1), goes(3, 0, x=1)), either(goes(4, 1, x=1, z=1), FALSE)))

    def test_great_numbers_that_go_into_sums_without_it(self):
        one = both(goes(GREAT, 0, y=1), above(0, x=1, y=-1))
        told = self.take("x", one)
        self.assertIs(is_true(told, {"y": 7 * GREAT}), True)
        self.assertIs(is_true(told, {"y": 7 * GREAT + 1}), False)

    def test_numbers_of_goes_beyond_the_limit_raise_nothing(self):
        for divisor in (0, -2):
            self.take("x", both(goes(divisor, 0, x=1, y=1), above(0, x=1)))

    def test_values_of_sixty_figures(self):
        told = self.take("x", both(above(0, x=2, y=-1), above(0, x=-3, z=1), goes(2, 1, x=1)))
        for more in range(20):
            for less in range(4):
                values = {"y": 2 * GREAT + less, "z": 3 * GREAT + more}
                expected = some_number_makes("x", both(above(0, x=2, y=-1), above(0, x=-3, z=1), goes(2, 1, x=1)), values)
                self.assertIs(is_true(told, values), expected)


class UnderOthers(Taken):
    parts = (above(0, x=1, y=-1), above(3, x=-1, z=1), goes(2, 0, x=1, y=1), no(nought(1, x=1, z=1)), nought(2, x=3, y=1))

    def test_under_not(self):
        for one in (*self.parts, both(*self.parts), either(*self.parts), both(*self.parts[:3])):
            for many in range(1, 4):
                self.holds_for(nots(many, one))

    def test_and_and_or_within_one_another(self):
        a, b, c, d, e = self.parts
        for one in (
            both(a, either(b, c)),
            either(both(a, b), both(c, d)),
            both(either(a, b), either(c, d), either(b, e)),
            both(a, b, either(both(c, e), both(d, no(c)))),
            no(either(both(a, no(b)), both(c, either(d, no(e))))),
            both(a, either(e, both(b, either(no(c), nought(0, x=1, y=-2))))),
        ):
            self.holds_for(one)
            self.holds_for(no(one))

    def test_of_none(self):
        for one in (TRUE, FALSE):
            self.holds_for(one)
            self.holds_for(no(one))
            for part in self.parts:
                self.holds_for(both(one, part))
                self.holds_for(either(part, one))

    def test_of_twenty_parts(self):
        lows = [above(number, x=1 + number % 3, y=number % 4 - 2) for number in range(10)]
        highs = [above(20 - number, x=-1 - number % 2, z=number % 3 - 1) for number in range(7)]
        rests = [goes(2, 0, x=1, y=1), goes(3, 1, x=2, z=1), no(goes(4, 2, x=1))]
        self.holds_for(both(*lows, *highs, *rests))
        self.holds_for(either(*lows, *highs, *rests))
        self.holds_for(no(either(*lows, *highs, *rests)))
        self.holds_for(both(*[either(one, goes(3, 0, x=1, y=1)) for one in (*lows, *highs)], *rests))
        points = [both(nought(-number, x=1, y=-1), above(-number, z=number - 9)) for number in range(20)]
        self.holds_for(either(*points))
        self.holds_for(both(above(1, x=1, y=-1), above(20, x=-1, y=1), no(either(*points))))

    def test_drawn_statements(self):
        draw = Draw(11)
        for _ in range(400):
            one = draw.plain("xyz", 4)
            told = self.take("x", one)
            for _ in range(6):
                values = draw.values()
                self.assertIs(is_true(told, values), some_number_makes("x", one, values), (one, values))

    def test_drawn_statements_with_greater_shares(self):
        draw = Draw(12)
        for _ in range(100):
            one = draw.plain("xyz", 3, 8)
            told = self.take("x", one)
            for _ in range(6):
                values = draw.values()
                self.assertIs(is_true(told, values), some_number_makes("x", one, values), (one, values))

    def drawn(self, draw, one):
        told = self.take("x", one)
        for _ in range(6):
            values = draw.values()
            self.assertIs(is_true(told, values), some_number_makes("x", one, values), (one, values))

    def test_drawn_statements_of_bounds_and_of_many_ors(self):
        draw = Draw(13)
        for _ in range(120):
            one = draw.clauses("xyz", draw.random.randint(2, 4))
            self.drawn(draw, one)
            self.drawn(draw, no(one))

    def test_drawn_statements_of_few_that_stand_many_times(self):
        draw = Draw(14)
        for _ in range(150):
            few = [draw.over_sum("xyz", 2) for _ in range(4)]
            few.append(above(draw.random.randint(0, 4), x=1, y=-1))
            few.append(above(draw.random.randint(0, 4), x=-1, y=1))
            self.drawn(draw, draw.of_few(few, 4))

    def test_drawn_statements_of_goes_alone(self):
        draw = Draw(15)
        for _ in range(100):
            self.drawn(draw, draw.rests("xyz", 3))

    def test_great_common_divisors_of_shares_and_numbers(self):
        for divisor, many in ((12, 8), (12, 9), (20, 8), (18, 12), (24, 20), (9, 6), (8, 6)):
            one = goes(divisor, 1, x=many, y=3, z=1)
            self.holds_for(both(one, goes(5, 0, x=1, y=1)))
            self.holds_for(both(one, no(goes(4, 2, x=1, z=1)), no(goes(3, 2, x=1, z=2))))

    def test_one_that_stands_in_several_ors(self):
        low = above(0, x=1, y=-1)
        one = both(
            either(both(low, above(2, x=-1, y=1)), nought(0, x=1, v=-1)),
            either(both(low, nought(0, x=1, u=-1)), above(0, x=-1, w=1)),
        )
        told = self.take("x", one)
        for values in small_values("uvwy", (-1, 0, 1, 2, 5)):
            self.assertIs(is_true(told, values), some_number_makes("x", one, values), values)

    def test_goes_that_bars_all_numbers(self):
        parts = (no(goes(3, 0, x=1, w=1)), no(goes(3, 0, x=1, y=1)), no(goes(3, 0, x=1, z=1)))
        told = self.take("x", both(*parts))
        for values in small_values("wyz", range(-3, 4)):
            self.assertIs(is_true(told, values), len({values[name] % 3 for name in "wyz"}) < 3, values)
        self.holds_for(both(*parts, either(goes(4, 0, x=1, y=1), goes(5, 0, x=1, z=1)), no(goes(4, 2, x=2))))
        self.holds_for(both(either(*parts[:2]), either(goes(3, 0, x=1, y=1), goes(6, 1, x=1, z=2)), parts[2]))

    def test_forty_within_one_another(self):
        for first in (0, 1):
            for kind in (nought, above):
                one = kind(1, x=2, y=3)
                for level in range(39):
                    side = above(level % 9 - 4, x=level % 5 - 2, y=1 - level % 3, z=level % 4)
                    one = (both, either)[(level + first) % 2](side, one)
                self.assertEqual(depth(one), 40)
                self.holds_for(one)

    def test_beyond_forty(self):
        one = nots(100, both(above(0, x=2, y=-1), above(0, x=-2, z=1)))
        self.holds_for(one)


class Twice(Taken):
    def both_ways(self, one):
        for first, second in (("x", "y"), ("y", "x")):
            inner = self.take(first, one)
            told = self.take(second, inner)
            for values in small_values(names_in(one) - {"x", "y"}, FEW) + great_values(names_in(one) - {"x", "y"}):
                self.assertIs(is_true(told, values), some_number_makes(second, inner, values))
                yield values, is_true(told, values)

    def test_both_ways_tell_the_same(self):
        for one in (
            both(nought(0, x=3, y=5, z=-1), above(1, x=1), above(1, y=1)),
            both(above(0, x=2, y=-1), above(0, x=-2, y=1, z=1), goes(3, 0, x=1, y=1)),
            either(both(above(0, x=1, y=-1), nought(0, y=2, z=1)), no(above(0, x=1, z=1))),
            both(above(0, x=1, y=1, z=-2), above(1, x=-1, z=1), above(1, y=-1, z=1), no(nought(0, x=1, y=-1))),
        ):
            answers = {}
            for values, answer in self.both_ways(one):
                self.assertIs(answers.setdefault(tuple(values.items()), answer), answer)

    def test_sums_of_threes_and_fives(self):
        one = both(nought(0, x=3, y=5, z=-1), above(1, x=1), above(1, y=1))
        told = self.take("y", self.take("x", one))
        for z in range(-3, 30):
            expected = any(3 * x + 5 * y == z for x in range(11) for y in range(7))
            self.assertIs(is_true(told, {"z": z}), expected, z)
        self.assertIs(is_true(told, {"z": GREAT}), True)

    def test_the_same_one(self):
        one = self.take("x", both(above(0, x=2, y=-1), above(0, x=-2, z=1)))
        again = self.take("x", one)
        for values in small_values("yz", FEW):
            self.assertIs(is_true(again, values), is_true(one, values))


class Refused(Taken):
    def test_some_or_all_anywhere(self):
        for bound in (some("x", above(0, x=1)), every("y", above(0, x=1)), some("z", TRUE)):
            for one in (bound, no(bound), both(FALSE, bound), either(TRUE, no(bound)), nots(38, bound)):
                for name in ("x", "y", "q"):
                    for kind in (NotPlain, SomeError, ValueError):
                        with self.assertRaises(kind) as caught:
                            taken(name, one)
                        self.assertNotIsInstance(caught.exception, (NoValue, NoNote))

    def test_asked_again_it_tells_the_same(self):
        one = both(above(0, x=2, y=-1), above(0, x=-3, z=1), either(goes(4, 0, x=1), nought(1, x=1, z=1)))
        first = taken("x", one)
        taken("y", one)
        taken("x", no(one))
        self.assertEqual(taken("x", one), first)


if __name__ == "__main__":
    unittest.main()
