"""Nothing is kept between calls, and nothing that is handed in is changed."""

import copy
import unittest

from somenumber.errors import SomeError
from somenumber.notes import read, written
from somenumber.statements import is_plain, is_true, put, unknowns
from somenumber.sums import made
from somenumber.taking import left, straight, taken
from somenumber.telling import holds, told
from tests.reference import Draw, above, both, either, every, goes, no, nought, some

PLAIN = both(above(0, x=2, y=-1), above(0, x=-3, z=1), either(goes(4, 0, x=1), no(nought(1, x=1, z=1))))
BOUND = both(every("x", either(above(0, x=1), above(1, x=-1, y=1))), some("z", PLAIN), above(4, z=1))


class Kept(unittest.TestCase):
    def asks(self, plain, bound, values):
        return (
            lambda: straight(plain),
            lambda: taken("x", plain),
            lambda: taken("y", plain),
            lambda: left(bound),
            lambda: left(some("y", bound)),
            lambda: holds(bound, values),
            lambda: holds(plain, values),
            lambda: told("x", bound, values),
            lambda: told("z", plain, values),
            lambda: written(bound),
            lambda: read(written(bound)),
            lambda: unknowns(bound),
            lambda: is_plain(bound),
            lambda: is_true(plain, values),
            lambda: put(plain, "x", (1, (("y", 1),))),
        )

    def test_asked_the_same_again_each_function_tells_the_same(self):
        values = {"x": 3, "y": 5, "z": 11}
        asks = self.asks(PLAIN, BOUND, values)
        first = [ask() for ask in asks]
        self.assertEqual([ask() for ask in reversed(asks)], first[::-1])
        for ask in asks:
            for other in asks:
                other()
            self.assertEqual(ask(), first[asks.index(ask)])

    def test_nothing_handed_in_is_changed(self):
        draw = Draw(61)
        for _ in range(40):
            plain, bound, values = draw.plain("xyz", 4), draw.statement("xyz", 5), draw.values()
            handed = (plain, bound, values)
            kept = copy.deepcopy(handed)
            for ask in self.asks(plain, bound, values):
                ask()
                self.assertEqual(handed, kept)
                self.assertEqual(list(values.items()), list(kept[2].items()))

    def test_what_is_done_with_a_told_list_changes_nothing(self):
        names = unknowns(PLAIN)
        names.append("q")
        names.sort(reverse=True)
        self.assertEqual(unknowns(PLAIN), ["x", "y", "z"])
        names = unknowns(BOUND)
        names.clear()
        self.assertEqual(unknowns(BOUND), ["x", "y", "z"])
        self.assertIs(holds(BOUND, {"x": 3, "y": 5, "z": 11}), holds(read(written(BOUND)), {"x": 3, "y": 5, "z": 11}))

    def test_what_is_done_with_a_dict_that_was_handed_in_changes_nothing(self):
        one = some("x", both(nought(0, x=2, y=-1), above(0, x=1)))
        values = {"y": 4}
        self.assertIs(holds(one, values), True)
        self.assertEqual(told("y", both(one, above(5, y=-1), above(-3, y=1)), values), 4)
        values["y"] = 5
        self.assertIs(holds(one, values), False)
        self.assertIs(holds(one, {"y": 4}), True)
        values["x"] = 2
        values.pop("y")
        with self.assertRaises(SomeError):
            holds(one, values)
        self.assertIs(holds(one, {"y": 4}), True)
        self.assertEqual(told("x", nought(0, x=1, y=-1), {"y": 4}), 4)

    def test_what_is_done_with_a_list_of_pairs_changes_nothing(self):
        pairs = [("x", 2), ("y", -1)]
        one = ("above", made(0, pairs))
        first = taken("x", both(one, above(0, x=-3, z=1)))
        pairs[0] = ("x", 5)
        pairs.append(("q", 1))
        self.assertEqual(one, above(0, x=2, y=-1))
        self.assertEqual(taken("x", both(one, above(0, x=-3, z=1))), first)

    def test_a_refusal_leaves_nothing_behind(self):
        first = [ask() for ask in self.asks(PLAIN, BOUND, {"x": 3, "y": 5, "z": 11})]
        for ask in (
            lambda: taken("x", BOUND), lambda: straight(BOUND), lambda: holds(BOUND, {}), lambda: told("x", BOUND, {}),
            lambda: read("and 2 or 0"), lambda: read(""), lambda: put(BOUND, "x", (0, ())),
        ):
            with self.assertRaises(SomeError):
                ask()
        self.assertEqual([ask() for ask in self.asks(PLAIN, BOUND, {"x": 3, "y": 5, "z": 11})], first)


if __name__ == "__main__":
    unittest.main()
