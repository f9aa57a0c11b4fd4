import copy
import itertools
import unittest

from somenumber.errors import NotPlain, NoValue, SomeError
from somenumber.sums import added, made, put_in, share, times, value, without

GREAT = int("9" * 60)
OTHER_GREAT = int("1" + "0" * 59)

SOME_SUMS = (
    (0, ()),
    (7, ()),
    (-GREAT, ()),
    (0, (("x", 1),)),
    (-3, (("x", -2), ("y", 5))),
    (4, (("y", -5), ("z", 1))),
    (1, (("a", 2), ("ab", -2), ("abcdefgh", 3), ("b", 1))),
    (GREAT, (("x", -GREAT), ("z", OTHER_GREAT))),
)
SOME_VALUES = (
    {"x": 0, "y": 0, "z": 0, "a": 0, "ab": 0, "abcdefgh": 0, "b": 0},
    {"x": 3, "y": -2, "z": 11, "a": 5, "ab": -7, "abcdefgh": 13, "b": -17},
    {"x": -GREAT, "y": GREAT, "z": 1, "a": OTHER_GREAT, "ab": 2, "abcdefgh": -3, "b": GREAT},
)
SOME_NAMES = ("x", "y", "z", "a", "ab", "abcdefgh", "b", "q")


class SumsTest(unittest.TestCase):
    def is_a_sum(self, one):
        """Whether a told value is of the form that the document describes, to its kinds."""
        self.assertIs(type(one), tuple)
        self.assertEqual(len(one), 2)
        number, parts = one
        self.assertIs(type(number), int)
        self.assertIs(type(parts), tuple)
        for part in parts:
            self.assertIs(type(part), tuple)
            self.assertEqual(len(part), 2)
            self.assertIs(type(part[0]), str)
            self.assertIs(type(part[1]), int)
            self.assertNotEqual(part[1], 0)
        names = [name for name, _ in parts]
        self.assertEqual(names, sorted(set(names)))

    def tells(self, one, expected):
        self.is_a_sum(one)
        self.assertEqual(one, expected)


class Made(SumsTest):
    def test_pairs_in_any_order(self):
        pairs = [("x", 2), ("a", -1), ("k", 7), ("b", 3)]
        for ordered in itertools.permutations(pairs):
            self.tells(made(5, list(ordered)), (5, (("a", -1), ("b", 3), ("k", 7), ("x", 2))))

    def test_no_pairs(self):
        self.tells(made(0, []), (0, ()))
        self.tells(made(-12, []), (-12, ()))

    def test_names_that_stand_several_times(self):
        self.tells(made(1, [("x", 2), ("y", 4), ("x", 3), ("x", -1)]), (1, (("x", 4), ("y", 4))))
        self.tells(made(1, [("x", 2), ("x", 2)]), (1, (("x", 4),)))

    def test_shares_that_are_nought(self):
        self.tells(made(1, [("x", 0)]), (1, ()))
        self.tells(made(1, [("x", 0), ("y", 2), ("z", 0)]), (1, (("y", 2),)))
        self.tells(made(1, [("x", 0), ("x", 3), ("x", 0)]), (1, (("x", 3),)))

    def test_shares_that_add_up_to_nought(self):
        self.tells(made(1, [("x", 2), ("y", 3), ("x", -2)]), (1, (("y", 3),)))
        self.tells(made(1, [("x", GREAT), ("x", -GREAT)]), (1, ()))
        self.tells(made(1, [("x", 1), ("x", 1), ("x", -2)]), (1, ()))

    def test_a_share_that_was_nought_on_the_way(self):
        self.tells(made(0, [("x", 2), ("x", -2), ("x", 5)]), (0, (("x", 5),)))

    def test_names_of_length_one_and_eight(self):
        pairs = [("zzzzzzzz", 1), ("z", 2), ("aaaaaaaa", 3), ("a", 4)]
        expected = (0, (("a", 4), ("aaaaaaaa", 3), ("z", 2), ("zzzzzzzz", 1)))
        self.tells(made(0, pairs), expected)

    def test_names_of_which_one_is_the_beginning_of_another(self):
        pairs = [("b", 1), ("abc", 2), ("a", 3), ("ab", 4)]
        for ordered in itertools.permutations(pairs):
            self.tells(made(0, list(ordered)), (0, (("a", 3), ("ab", 4), ("abc", 2), ("b", 1))))

    def test_names_beyond_the_limit_of_length(self):
        self.tells(made(0, [("abcdefghij", 1), ("abcdefghi", 2)]), (0, (("abcdefghi", 2), ("abcdefghij", 1))))

    def test_numbers_of_sixty_figures_either_way(self):
        self.tells(made(GREAT, [("x", -GREAT), ("y", GREAT)]), (GREAT, (("x", -GREAT), ("y", GREAT))))
        self.tells(made(-GREAT, [("x", GREAT), ("x", 1)]), (-GREAT, (("x", 10 ** 60),)))

    def test_the_list_handed_in_stays(self):
        pairs = [("y", 2), ("x", 0), ("y", -2), ("a", 5)]
        kept = list(pairs)
        made(3, pairs)
        self.assertEqual(pairs, kept)

    def test_what_was_told_does_not_follow_the_list(self):
        pairs = [("y", 2)]
        one = made(3, pairs)
        pairs.append(("x", 1))
        pairs[0] = ("y", 9)
        self.assertEqual(one, (3, (("y", 2),)))

    def test_asked_again_it_tells_the_same(self):
        first = made(3, [("y", 2), ("x", 1)])
        made(8, [("x", 5), ("q", 1)])
        self.assertEqual(made(3, [("y", 2), ("x", 1)]), first)
        self.assertEqual(first, (3, (("x", 1), ("y", 2))))


class Added(SumsTest):
    def test_ordinary_sums(self):
        one = (3, (("x", 2), ("z", 5)))
        other = (-4, (("a", 1), ("x", 3), ("y", 7)))
        self.tells(added(one, other), (-1, (("a", 1), ("x", 5), ("y", 7), ("z", 5))))

    def test_shares_that_cancel_each_other_out(self):
        one = (3, (("x", 2), ("y", -1)))
        self.tells(added(one, (1, (("x", -2), ("z", 4)))), (4, (("y", -1), ("z", 4))))
        self.tells(added(one, (-3, (("x", -2), ("y", 1)))), (0, ()))

    def test_sums_without_unknowns(self):
        self.tells(added((3, ()), (-5, ())), (-2, ()))
        self.tells(added((0, ()), (4, (("x", 1),))), (4, (("x", 1),)))
        self.tells(added((4, (("x", 1),)), (0, ())), (4, (("x", 1),)))

    def test_great_numbers(self):
        one = (GREAT, (("x", GREAT),))
        self.tells(added(one, (1, (("x", 1),))), (10 ** 60, (("x", 10 ** 60),)))

    def test_it_comes_to_both_values_added(self):
        for one, other in itertools.product(SOME_SUMS, repeat=2):
            told = added(one, other)
            self.is_a_sum(told)
            for values in SOME_VALUES:
                self.assertEqual(value(told, values), value(one, values) + value(other, values))


class Times(SumsTest):
    def test_by_nought(self):
        self.tells(times(0, (3, (("x", 2), ("y", -1)))), (0, ()))
        self.tells(times(0, (3, ())), (0, ()))

    def test_by_one_and_by_a_number_above(self):
        self.tells(times(1, (3, (("x", 2),))), (3, (("x", 2),)))
        self.tells(times(4, (3, (("x", 2), ("y", -1)))), (12, (("x", 8), ("y", -4))))

    def test_by_a_number_below_nought(self):
        self.tells(times(-1, (3, (("x", 2), ("y", -1)))), (-3, (("x", -2), ("y", 1))))
        self.tells(times(-5, (0, (("x", 2),))), (0, (("x", -10),)))

    def test_by_great_numbers(self):
        self.tells(times(10 ** 60, (-1, (("x", 7),))), (-10 ** 60, (("x", 7 * 10 ** 60),)))
        self.tells(times(-GREAT, (GREAT, (("x", -GREAT),))), (-GREAT * GREAT, (("x", GREAT * GREAT),)))

    def test_it_comes_to_the_value_times_the_number(self):
        for one in SOME_SUMS:
            for number in (-GREAT, -2, -1, 0, 1, 3, GREAT):
                told = times(number, one)
                self.is_a_sum(told)
                for values in SOME_VALUES:
                    self.assertEqual(value(told, values), number * value(one, values))


class ShareAndWithout(SumsTest):
    one = (9, (("a", 2), ("ab", -3), ("x", GREAT)))

    def test_share_of_a_name_that_stands_there(self):
        self.assertEqual(share(self.one, "a"), 2)
        self.assertEqual(share(self.one, "ab"), -3)
        self.assertEqual(share(self.one, "x"), GREAT)

    def test_share_of_a_name_that_does_not(self):
        for name in ("b", "abc", "aa", "q", "zzzzzzzz"):
            told = share(self.one, name)
            self.assertEqual(told, 0)
            self.assertIs(type(told), int)
        self.assertEqual(share((4, ()), "a"), 0)

    def test_without_a_name_that_stands_there(self):
        self.tells(without(self.one, "a"), (9, (("ab", -3), ("x", GREAT))))
        self.tells(without(self.one, "ab"), (9, (("a", 2), ("x", GREAT))))
        self.tells(without((-1, (("x", 5),)), "x"), (-1, ()))

    def test_without_a_name_that_does_not(self):
        for name in ("b", "abc", "aa", "q"):
            self.tells(without(self.one, name), self.one)
        self.tells(without((4, ()), "a"), (4, ()))


class PutIn(SumsTest):
    def test_an_ordinary_sum(self):
        one = (1, (("x", 3), ("y", 2)))
        self.tells(put_in(one, "x", (5, (("a", 2), ("z", -1)))), (16, (("a", 6), ("y", 2), ("z", -3))))

    def test_a_sum_without_unknowns(self):
        self.tells(put_in((1, (("x", 3), ("y", 2))), "x", (-4, ())), (-11, (("y", 2),)))
        self.tells(put_in((1, (("x", 3),)), "x", (0, ())), (1, ()))

    def test_a_sum_in_which_the_unknown_itself_stands(self):
        one = (1, (("x", 3), ("y", 2)))
        self.tells(put_in(one, "x", (5, (("x", 2),))), (16, (("x", 6), ("y", 2))))
        self.tells(put_in(one, "x", (0, (("x", 1),))), one)
        self.tells(put_in(one, "x", (7, (("x", -1), ("y", 1)))), (22, (("x", -3), ("y", 5))))

    def test_an_unknown_that_does_not_stand_in_the_sum(self):
        one = (1, (("x", 3), ("y", 2)))
        self.tells(put_in(one, "z", (5, (("x", 2), ("z", 1)))), one)
        self.tells(put_in((4, ()), "z", (5, (("x", 2),))), (4, ()))

    def test_shares_that_cancel_each_other_out(self):
        one = (1, (("x", 3), ("y", 6)))
        self.tells(put_in(one, "x", (2, (("y", -2),))), (7, ()))
        self.tells(put_in(one, "x", (0, (("x", 4), ("y", -2)))), (1, (("x", 12),)))

    def test_great_numbers(self):
        one = (-GREAT, (("x", GREAT),))
        self.tells(put_in(one, "x", (1, (("x", GREAT),))), (0, (("x", GREAT * GREAT),)))

    def test_it_comes_to_the_value_with_the_other_value_in_its_place(self):
        for one, other in itertools.product(SOME_SUMS, repeat=2):
            for name in SOME_NAMES:
                told = put_in(one, name, other)
                self.is_a_sum(told)
                for values in SOME_VALUES:
                    placed = {**values, name: value(other, values)}
                    self.assertEqual(value(told, values), value(one, placed))


class Value(SumsTest):
    def test_ordinary_values(self):
        one = (10, (("x", 3), ("y", -2)))
        self.assertEqual(value(one, {"x": 4, "y": 5}), 12)
        self.assertEqual(value(one, {"x": 0, "y": 0}), 10)
        self.assertEqual(value(one, {"x": -1, "y": 9, "z": 100}), -11)

    def test_a_sum_without_unknowns(self):
        self.assertEqual(value((-8, ()), {}), -8)
        self.assertEqual(value((0, ()), {"x": 3}), 0)

    def test_great_numbers(self):
        self.assertEqual(value((GREAT, (("x", -GREAT),)), {"x": GREAT}), GREAT - GREAT * GREAT)
        self.assertEqual(value((-GREAT, (("x", 1),)), {"x": -GREAT}), -2 * GREAT)

    def test_an_unknown_without_a_value(self):
        one = (10, (("x", 3), ("y", -2)))
        for values in ({}, {"x": 1}, {"y": 1}, {"xx": 1, "yy": 2}):
            for kind in (NoValue, SomeError, ValueError):
                with self.assertRaises(kind):
                    value(one, values)

    def test_the_refusal_is_not_another_one(self):
        with self.assertRaises(SomeError) as caught:
            value((0, (("x", 1),)), {})
        self.assertNotIsInstance(caught.exception, NotPlain)

    def test_the_values_stay(self):
        values = {"y": 1, "x": 2}
        value((0, (("x", 1),)), values)
        self.assertEqual(list(values.items()), [("y", 1), ("x", 2)])
        with self.assertRaises(NoValue):
            value((0, (("x", 1), ("z", 1))), values)
        self.assertEqual(list(values.items()), [("y", 1), ("x", 2)])


class HandedIn(SumsTest):
    def test_what_was_handed_in_stays_and_is_answered_the_same_again(self):
        for one, other in itertools.product(SOME_SUMS, repeat=2):
            handed = copy.deepcopy((one, other))
            asks = (
                lambda: added(one, other),
                lambda: times(-3, one),
                lambda: share(one, "x"),
                lambda: without(one, "x"),
                lambda: put_in(one, "x", other),
                lambda: value(one, SOME_VALUES[1]),
            )
            first = [ask() for ask in asks]
            self.assertEqual([ask() for ask in reversed(asks)], first[::-1])
            self.assertEqual((one, other), handed)


if __name__ == "__main__":
    unittest.main()
