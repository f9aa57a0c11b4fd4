import copy
import unittest

from somenumber.errors import NoNote, NotPlain, NoValue, SomeError
from somenumber.statements import is_true
from somenumber.taking import left
from somenumber.telling import holds, told
from tests.reference import (
    FALSE, GREAT, TRUE, Draw, above, both, either, every, goes, no, nots, nought, small_values, some,
    some_number_makes, truth_within, within,
)

HALF = some("x", nought(0, x=2, z=-1))
ABOVE_ALL = every("x", either(above(1, x=-1), above(0, x=1, z=1)))


class HoldsTest(unittest.TestCase):
    def answered(self, one, values, expected):
        kept = copy.deepcopy((one, list(values.items())))
        self.assertIs(holds(one, values), expected, (one, values))
        self.assertIs(holds(no(one), values), not expected, (one, values))
        self.assertIs(holds(one, values), expected)
        self.assertEqual((one, list(values.items())), kept)

    def no_value(self, ask):
        for kind in (NoValue, SomeError, ValueError):
            with self.assertRaises(kind) as caught:
                ask()
            self.assertNotIsInstance(caught.exception, (NotPlain, NoNote))


class Holds(HoldsTest):
    def test_without_bound_unknowns(self):
        for one in (above(1, x=2, y=-1), both(nought(0, x=1), goes(2, 0, y=1)), either(no(above(0, x=1)), FALSE), TRUE):
            for values in small_values("xy"):
                self.answered(one, values, is_true(one, values))

    def test_with_bound_unknowns(self):
        for z in range(-5, 6):
            self.answered(HALF, {"z": z}, z % 2 == 0)
            self.answered(ABOVE_ALL, {"z": z}, z >= 0)
            self.answered(both(HALF, above(0, z=1)), {"z": z}, z > 0 and z % 2 == 0)
            self.answered(every("x", HALF), {"z": z}, z % 2 == 0)
        self.answered(every("z", HALF), {}, False)
        self.answered(some("z", HALF), {}, True)
        self.answered(every("z", either(HALF, some("x", nought(1, x=2, z=-1)))), {}, True)

    def test_great_values(self):
        for z in (GREAT, GREAT - 1, -GREAT, 2 * GREAT, GREAT * GREAT):
            self.answered(HALF, {"z": z}, z % 2 == 0)
            self.answered(ABOVE_ALL, {"z": z}, z >= 0)
        pays = some("a", some("b", both(above(1, a=1), above(1, b=1), nought(0, a=123, b=457, z=-1))))
        self.answered(pays, {"z": GREAT}, True)
        self.answered(pays, {"z": -GREAT}, False)
        between = some("a", both(above(0, a=GREAT, y=-1), above(0, a=-GREAT, z=1)))
        self.answered(between, {"y": GREAT - 1, "z": GREAT + 1}, True)
        self.answered(between, {"y": GREAT, "z": 2 * GREAT}, False)
        self.answered(some("a", both(goes(GREAT, 7, a=1, z=1), above(0, a=1))), {"z": GREAT - 9}, True)

    def test_a_value_for_a_bound_unknown_changes_nothing(self):
        for x in (-3, 0, 1, 5, GREAT):
            self.answered(HALF, {"z": 3, "x": x}, False)
            self.answered(HALF, {"x": x, "z": 4}, True)
            self.answered(every("x", above(0, x=1)), {"x": x}, False)
            self.answered(some("x", above(0, x=1)), {"x": x}, True)

    def test_a_name_that_is_bound_here_and_free_there(self):
        one = both(above(0, x=1), some("x", both(nought(0, x=2, z=-1), above(0, x=-1))))
        for x in (-1, 0, 1, GREAT):
            for z in (-4, -3, 0, 4):
                self.answered(one, {"x": x, "z": z}, x > 0 and z < 0 and z % 2 == 0)

    def test_values_for_names_that_stand_nowhere(self):
        self.answered(HALF, {"z": 4, "q": 9, "zz": 1}, True)

    def test_no_value(self):
        for one in (above(0, z=1), HALF, ABOVE_ALL, nots(39, above(0, z=1)), both(HALF, above(0, y=1))):
            self.no_value(lambda: holds(one, {}))
            self.no_value(lambda: holds(one, {"x": 1, "y": 2}))
        self.no_value(lambda: holds(both(HALF, above(0, x=1)), {"z": 1}))

    def test_no_value_where_that_part_does_not_count(self):
        for one in (
            both(FALSE, HALF), either(TRUE, HALF), both(HALF, FALSE), either(no(FALSE), HALF), goes(1, 0, z=1),
            some("z", both(above(0, y=1), FALSE)), every("x", either(TRUE, above(0, z=1))),
            both(above(0, z=1), above(1, z=-1)), some("x", nought(0, x=1, z=-1)),
        ):
            self.no_value(lambda: holds(one, {"x": 3}))

    def test_the_values_stay_where_it_is_refused(self):
        values = {"y": 1, "x": 2}
        self.no_value(lambda: holds(both(HALF, above(0, y=1)), values))
        self.assertEqual(list(values.items()), [("y", 1), ("x", 2)])

    def test_drawn_statements(self):
        draw = Draw(31)
        for _ in range(250):
            one = draw.statement("xyz", 5)
            for _ in range(3):
                values = draw.values()
                self.answered(one, values, is_true(left(one), values))

    def test_drawn_statements_within_bounds(self):
        draw = Draw(32)
        for _ in range(150):
            one = draw.statement("xyz", 5)
            for _ in range(3):
                values = {name: draw.random.randint(-7, 7) for name in "xyz"}
                self.answered(within(-3, 3, one), values, truth_within(-3, 3, one, values))


class Told(HoldsTest):
    def tell(self, name, one, values):
        """Ask, and put the number that is told in."""
        kept = copy.deepcopy((one, list(values.items())))
        number = told(name, one, values)
        self.assertEqual(told(name, one, values), number)
        self.assertEqual((one, list(values.items())), kept)
        if number is not None:
            self.assertIs(type(number), int)
            self.assertIs(holds(one, {**values, name: number}), True, (one, values, number))
        return number

    def test_one_number(self):
        self.assertEqual(self.tell("x", nought(-7, x=1), {}), 7)
        self.assertEqual(self.tell("x", nought(9, x=-3), {}), 3)
        self.assertEqual(self.tell("x", both(above(-4, x=1), above(6, x=-1)), {}), 5)
        self.assertEqual(self.tell("x", both(above(-10, x=3), above(14, x=-3)), {}), 4)
        self.assertEqual(self.tell("x", both(goes(6, 1, x=1), above(-3, x=1), above(8, x=-1)), {}), 5)
        self.assertEqual(self.tell("x", nought(0, x=2, y=-1), {"y": 2 * GREAT}), GREAT)

    def test_several_numbers(self):
        self.assertIn(self.tell("x", both(above(-4, x=1), above(9, x=-1)), {}), (5, 6, 7, 8))
        self.assertIn(self.tell("x", either(nought(3, x=1), nought(-8, x=2)), {}), (-3, 4))
        one = both(above(0, x=1), above(30, x=-1), goes(4, 1, x=3), no(goes(5, 0, x=1)))
        self.assertIn(self.tell("x", one, {}), (1, 9, 13, 17, 21, 29))

    def test_infinitely_many_numbers(self):
        for one in (
            above(-100, x=1), above(-100, x=-1), goes(7, 3, x=2), no(nought(0, x=1)), no(goes(2, 0, x=1)),
            either(above(-50, x=1), above(-50, x=-1)), both(above(-50, x=3), goes(4, 1, x=1)),
            both(above(-50, x=-3), goes(4, 1, x=1), no(goes(3, 0, x=1))),
            every("y", either(above(0, x=1, y=-1), above(-4, y=1))),
        ):
            self.assertIsNotNone(self.tell("x", one, {}))

    def test_none(self):
        for one in (
            FALSE, nought(1, x=2), goes(4, 1, x=2), both(above(0, x=1), above(1, x=-1)), no(goes(1, 0, x=1)),
            both(goes(4, 1, x=1), goes(6, 0, x=1)), both(above(0, x=3), above(3, x=-3)), every("y", nought(0, x=1, y=1)),
            both(no(nought(-1, x=1)), above(0, x=1), above(2, x=-1)), above(-1), some("x", nought(1, x=2)),
        ):
            self.assertIsNone(self.tell("x", one, {}))

    def test_nought_is_a_number_and_not_none(self):
        self.assertEqual(self.tell("x", nought(0, x=1), {}), 0)

    def test_the_unknown_in_no_sum(self):
        parts = ((TRUE, True), (FALSE, False), (above(0, y=1), True), (nought(0, y=1), False), (HALF, True))
        for one, expected in parts:
            number = self.tell("q", one, {"y": 5, "z": 4})
            self.assertIs(number is not None, expected)

    def test_what_values_tell_of_the_unknown_counts_for_nothing(self):
        for one in (nought(-7, x=1, y=1), both(above(0, x=2, y=-1), above(4, x=-2, y=1)), above(0, y=1), nought(0, y=1)):
            for y in (-3, 0, 5, GREAT):
                expected = self.tell("x", one, {"y": y})
                for x in (-8, 0, 2, 7, GREAT):
                    self.assertEqual(self.tell("x", one, {"x": x, "y": y}), expected)

    def test_other_unknowns_of_sixty_figures(self):
        for y in (GREAT, -GREAT, GREAT - 7):
            for z in (GREAT, 1 - GREAT):
                values = {"y": y, "z": z}
                for one in (
                    both(above(0, x=3, y=-1), above(9, x=-3, y=1), goes(2, 0, x=1, z=1)),
                    both(goes(11, 0, x=1, y=1), goes(12, 5, x=1, z=1), above(0, x=1, y=-2)),
                    either(nought(1, x=2, y=1, z=1), nought(0, x=2, y=1, z=1)),
                ):
                    self.assertIsNotNone(self.tell("x", one, values))
                self.assertIsNone(self.tell("x", both(above(0, x=3, y=-1), above(1, x=-3, y=1)), values))

    def test_great_shares_and_numbers_that_go_into_sums(self):
        self.assertIsNotNone(self.tell("x", goes(GREAT, 7, x=2, y=1), {"y": 3}))
        one = both(goes(GREAT, 7, x=2, y=1), goes(10 ** 40 + 1, 1, x=1), above(-GREAT * GREAT, x=1))
        self.assertIsNotNone(self.tell("x", one, {"y": GREAT}))
        self.assertIsNotNone(self.tell("x", both(above(0, x=GREAT, y=-1), above(GREAT + 1, x=-GREAT, y=1)), {"y": 5}))

    def test_bound_unknowns(self):
        pays = some("a", some("b", both(above(1, a=1), above(1, b=1), nought(0, a=5, b=7, x=-1))))
        number = self.tell("x", both(no(pays), above(0, x=1), above(-20, x=1)), {})
        self.assertEqual(number, 23)
        self.assertIsNone(self.tell("x", both(no(pays), above(-23, x=1)), {}))
        self.assertIsNotNone(self.tell("x", every("y", either(above(0, y=1, x=-1), above(1, y=-1))), {}))
        above_it = every("y", either(above(0, y=1, x=-1), above(1, y=-1)))
        self.assertEqual(self.tell("x", both(above_it, above(1, x=1)), {}), 0)

    def test_the_unknown_among_the_bound_names(self):
        one = both(above(-5, x=1), some("x", nought(3, x=1)), above(7, x=-1))
        self.assertEqual(self.tell("x", one, {}), 6)
        self.assertEqual(self.tell("x", one, {"x": -9}), 6)
        self.assertIsNotNone(self.tell("x", some("x", nought(0, x=2, y=-1)), {"y": 4}))
        self.assertIsNone(self.tell("x", some("x", nought(0, x=2, y=-1)), {"y": 5, "x": 1}))
        self.assertEqual(self.tell("x", both(nought(-2, x=1), every("x", either(above(0, x=1), above(1, x=-1)))), {}), 2)

    def test_values_of_bound_unknowns_count_for_nothing(self):
        for y in (-1, 0, 3, GREAT):
            self.assertIsNone(self.tell("x", both(nought(1, x=1), every("y", above(0, x=1, y=1))), {"y": y}))
            self.assertEqual(self.tell("x", both(nought(1, x=1), some("y", above(0, x=1, y=1))), {"y": y}), -1)

    def test_no_value(self):
        for one in (
            above(0, x=1, y=1), above(0, y=1), both(FALSE, above(0, y=1)), either(nought(0, x=1), above(0, y=1)),
            some("x", nought(0, x=1, y=1)), goes(1, 0, y=1), both(nought(0, x=1), some("z", nought(0, y=1, z=1))),
            both(above(0, y=1), some("y", above(0, y=1))), nots(39, above(0, y=1)),
        ):
            self.no_value(lambda: told("x", one, {}))
            self.no_value(lambda: told("x", one, {"x": 1, "z": 2}))
        self.no_value(lambda: told("q", nought(0, x=1, y=1), {"q": 1, "x": 1}))

    def test_no_refusal_where_the_unknown_alone_has_no_value(self):
        self.assertIsNotNone(self.tell("x", above(0, x=1, y=1), {"y": 3}))
        self.assertIsNotNone(self.tell("x", above(0, x=1), {}))
        self.assertIsNotNone(self.tell("x", both(above(0, x=1), some("y", above(0, y=1))), {}))

    def test_drawn_statements(self):
        draw = Draw(41)
        for _ in range(300):
            one = draw.plain("xyz", 4)
            for _ in range(4):
                values = draw.values()
                number = self.tell("x", one, values)
                self.assertIs(number is not None, some_number_makes("x", one, values), (one, values))

    def test_drawn_statements_of_the_unknown_alone(self):
        draw = Draw(43)
        for _ in range(400):
            for one in (draw.plain("x", 5), draw.rests("x", 3), draw.of_few([draw.plain("x", 2) for _ in range(5)], 4)):
                number = self.tell("x", one, {})
                expected = some_number_makes("x", one, {})
                self.assertIs(number is not None, expected, one)

    def test_rests_below_and_above_a_number(self):
        for divisor in (3, 4, 5):
            for barred in range(divisor):
                others = [no(goes(divisor, rest, x=1)) for rest in range(divisor) if rest != barred]
                for more in (0, 1, 2):
                    rest = goes(2, more, x=1) if more < 2 else TRUE
                    for bound in (above(-50, x=1), above(-50, x=-1), both(above(-9, x=1), above(40, x=-1))):
                        found = divisor != 4 or more == 2 or (barred + more) % 2 == 0
                        number = self.tell("x", both(bound, rest, *others), {})
                        self.assertIs(number is not None, found, (divisor, barred, more))

    def test_several_numbers_that_go_into_sums(self):
        for one in range(2, 9):
            for other in range(2, 9):
                for rest in range(one):
                    for last in range(other):
                        parts = (goes(one, -rest, x=1), goes(other, -last, x=1), above(-100, x=1))
                        expected = any(x % one == rest and x % other == last for x in range(one * other))
                        self.assertIs(self.tell("x", both(*parts), {}) is not None, expected)

    def test_a_part_of_or_that_no_number_makes_true(self):
        never = both(goes(4, 1, x=1), goes(6, 0, x=1))
        self.assertEqual(self.tell("x", either(never, nought(-5, x=1)), {}), 5)
        self.assertEqual(self.tell("x", either(both(never, above(0, x=1)), never, both(nought(-6, x=2), TRUE)), {}), 3)
        self.assertIsNone(self.tell("x", either(never, both(never, above(0, x=1))), {}))
        later = both(goes(7, 3, x=1), no(goes(5, 0, x=1)))
        for parts in ((never, later), (later, never), (never, both(never, no(goes(9, 0, x=1))), later)):
            self.assertIsNotNone(self.tell("x", either(*parts), {}))
            self.assertIsNotNone(self.tell("x", both(either(*parts), above(0, x=1)), {}))
            self.assertIsNotNone(self.tell("x", both(above(9, x=1), above(99, x=-1), either(*parts)), {}))
        one = both(either(nought(-5, x=1), never), either(never, above(0, x=1)))
        self.assertEqual(self.tell("x", one, {}), 5)
        self.assertIsNone(self.tell("x", both(one, no(goes(5, 0, x=1))), {}))

    def test_drawn_statements_with_bound_unknowns(self):
        draw = Draw(42)
        for _ in range(150):
            one = draw.statement("xyz", 5)
            for _ in range(2):
                values = draw.values()
                number = self.tell("x", one, values)
                self.assertIs(number is not None, some_number_makes("x", left(one), values), (one, values))


if __name__ == "__main__":
    unittest.main()
