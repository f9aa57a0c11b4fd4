import unittest

from somenumber.errors import NoNote, NotPlain, NoValue, SomeError
from somenumber.notes import MOST_WITHIN, read, written
from somenumber.taking import left, straight, taken
from tests.reference import (
    FALSE, GREAT, TRUE, Draw, above, both, depth, either, every, goes, no, nots, nought, some,
)

EXAMPLE = "some x and 2 above 3 -2 x 1 y ; goes 4 0 1 x ;"
SIXTY = "9" * 60

PAIRS = (
    ("above 0 ;", above(0)),
    ("above -12 1 x ;", above(-12, x=1)),
    ("above 3 -2 x 1 y ;", above(3, x=-2, y=1)),
    ("nought 5 ;", nought(5)),
    ("nought 0 1 a -1 ab 10 b ;", nought(0, a=1, ab=-1, b=10)),
    ("goes 1 0 ;", goes(1, 0)),
    ("goes 12 -7 3 abcdefgh ;", goes(12, -7, abcdefgh=3)),
    ("not above 0 ;", no(above(0))),
    ("not not nought 1 1 x ;", nots(2, nought(1, x=1))),
    ("and 0", TRUE),
    ("or 0", FALSE),
    ("and 1 or 0", both(FALSE)),
    ("or 1 nought 0 ;", either(nought(0))),
    ("and 3 and 0 or 0 not and 0", both(TRUE, FALSE, no(TRUE))),
    ("or 2 above 1 ; above -1 ;", either(above(1), above(-1))),
    ("some x above 0 1 x ;", some("x", above(0, x=1))),
    ("all abcdefgh or 0", every("abcdefgh", FALSE)),
    ("some x all x nought 0 1 x ;", some("x", every("x", nought(0, x=1)))),
    (EXAMPLE, some("x", both(above(3, x=-2, y=1), goes(4, 0, x=1)))),
    ("and 10" + " or 0" * 10, both(*[FALSE] * 10)),
    ("above " + SIXTY + " -" + SIXTY + " x ;", above(GREAT, x=-GREAT)),
    ("goes " + SIXTY + " -" + SIXTY + " ;", goes(GREAT, -GREAT)),
    ("some some nought 0 1 some ;", some("some", nought(0, some=1))),
    ("all all some and and 1 above 0 1 all 1 and ;", every("all", some("and", both(above(0, **{"all": 1, "and": 1}))))),
    ("some not not nought 0 1 not ;", some("not", no(nought(0, **{"not": 1})))),
    ("some or or 0", some("or", FALSE)),
    ("all goes goes 2 0 1 goes ;", every("goes", goes(2, 0, goes=1))),
)


class Written(unittest.TestCase):
    def test_each_kind(self):
        for text, one in PAIRS:
            told = written(one)
            self.assertIs(type(told), str)
            self.assertEqual(told, text)

    def test_the_example(self):
        one = ("some", "x", ("and", (("above", (3, (("x", -2), ("y", 1)))), ("goes", 4, (0, (("x", 1),))))))
        self.assertEqual(written(one), "some x and 2 above 3 -2 x 1 y ; goes 4 0 1 x ;")

    def test_beyond_the_limits_it_writes_on(self):
        self.assertEqual(written(nots(100, TRUE)), "not " * 100 + "and 0")
        self.assertEqual(written(above(10 ** 60, abcdefghij=-10 ** 61)), f"above {10 ** 60} -{10 ** 61} abcdefghij ;")
        self.assertEqual(written(goes(0, 1)), "goes 0 1 ;")
        self.assertEqual(written(goes(-3, 1)), "goes -3 1 ;")

    def test_numbers_of_all_lengths(self):
        for figures in (1, 2, 59, 60, 61, 119, 120, 121, 180, 181, 400):
            for number in (10 ** (figures - 1), 10 ** figures - 1, 7 * 10 ** (figures - 1) + 7):
                self.assertEqual(written(above(number, x=-number)), f"above {number} -{number} x ;")

    def test_numbers_of_more_figures_than_python_writes_at_once(self):
        self.assertEqual(written(above(10 ** 5000)), "above 1" + "0" * 5000 + " ;")
        self.assertEqual(written(above(-(10 ** 5000) - 1)), "above -1" + "0" * 4999 + "1 ;")


class Read(unittest.TestCase):
    def refused(self, *texts):
        for text in texts:
            for kind in (NoNote, SomeError, ValueError):
                with self.assertRaises(kind, msg=repr(text)) as caught:
                    read(text)
                self.assertNotIsInstance(caught.exception, (NoValue, NotPlain))

    def taken(self, text, one):
        self.assertEqual(read(text), one)

    def test_each_text_that_written_tells(self):
        for text, one in PAIRS:
            self.taken(text, one)
            self.taken(written(one), one)

    def test_drawn_statements(self):
        draw = Draw(51)
        for _ in range(300):
            for one in (draw.plain("xyz", 6), draw.statement("xyz", 6)):
                self.taken(written(one), one)

    def test_what_the_program_tells_can_be_read(self):
        draw = Draw(52)
        for _ in range(100):
            one = draw.plain("xyz", 5)
            for told in (straight(one), taken("x", one), left(some("y", one))):
                self.taken(written(told), told)

    def test_tuples_throughout(self):
        def all_tuples(thing):
            return type(thing) in (int, str) or type(thing) is tuple and all(map(all_tuples, thing))

        for text, _ in PAIRS:
            self.assertTrue(all_tuples(read(text)))

    def test_the_empty_text(self):
        self.refused("")

    def test_blanks(self):
        self.refused(" ", "  ", " and 0", "and 0 ", "and  0", " " + EXAMPLE, EXAMPLE + " ")
        words = EXAMPLE.split(" ")
        for at in range(1, len(words)):
            self.refused(" ".join(words[:at]) + "  " + " ".join(words[at:]))

    def test_other_signs_between_words(self):
        for sign in ("\t", "\n", "\r", "\r\n", "\u00a0", "\u2003", "\x0b", "\f", "\x00", ",", "_", ""):
            self.refused("and" + sign + "0", "above 0" + sign + ";", "and 0" + sign + "x", sign + " and 0", "and 0 " + sign)
            if sign:
                self.refused("and 0" + sign, sign + "and 0", "above" + sign + " 0 ;", "above 0 ;" + sign)

    def test_noughts_ahead(self):
        self.refused("above 00 ;", "above 01 ;", "above -01 ;", "above 0 01 x ;", "goes 02 0 ;", "and 00", "and 01 or 0")
        self.refused("above -00 ;", "nought 0 -01 x ;", "above 0" + SIXTY[1:] + " ;")
        self.taken("above 0 ;", above(0))
        self.taken("above 10 100 x ;", above(10, x=100))

    def test_nought_below_nought(self):
        self.refused("above -0 ;", "nought -0 1 x ;", "above 0 -0 x ;", "goes -0 0 ;", "and -0", "or -0")

    def test_other_ways_to_write_numbers(self):
        for number in ("+1", "+0", "-", "+", "--1", "-+1", "1-", "1.0", "1.", "1e2", "0x1", "1_0", "1,0", "one", "x", ";"):
            self.refused(f"above {number} ;", f"above 0 {number} x ;", f"goes {number} 0 ;", f"and {number} or 0")

    def test_figures_of_other_kinds(self):
        for sign in ("\u0663", "\u00b2", "\u2167", "\u0967", "\uff11", "\u00bd", "\u2460", "\U0001d7d9"):
            self.refused(f"above {sign} ;", f"above 1{sign} ;", f"above 0 {sign} x ;", f"goes {sign} 0 ;", f"and {sign} or 0")

    def test_no_figures(self):
        self.refused("above ;", "above x ;", "goes ;", "goes ; 0 ;", "and", "or", "and or 0", "above - ;", "above  ;")

    def test_sixty_and_sixty_one_figures(self):
        for figures in (SIXTY, "1" + "0" * 59):
            number = int(figures)
            self.taken(f"above {figures} -{figures} x ;", above(number, x=-number))
            self.taken(f"nought -{figures} {figures} x ;", nought(-number, x=number))
            self.taken(f"goes {figures} 0 ;", goes(number, 0))
            longer = figures + "0"
            self.refused(f"above {longer} ;", f"above -{longer} ;", f"above 0 {longer} x ;", f"above 0 -{longer} x ;")
            self.refused(f"goes {longer} 0 ;", f"and {longer} or 0", f"and {figures} or 0", f"or {figures}")
        self.refused("above " + "1" * 5000 + " ;")

    def test_numbers_of_goes(self):
        self.taken("goes 1 0 ;", goes(1, 0))
        self.refused("goes 0 0 ;", "goes -1 0 ;", "goes -" + SIXTY + " 0 ;", "not goes 0 4 1 x ;")

    def test_counts(self):
        self.refused("and -1", "or -1", "and -1 or 0", "or -2 and 0 and 0", "and -" + SIXTY)
        self.refused("and 1", "and 2 or 0", "or 3 or 0 or 0", "and 0 or 0", "and 1 or 0 or 0", "or 2 or 0 or 0 or 0")

    def test_names(self):
        self.taken("some a above 0 1 z ;", some("a", above(0, z=1)))
        self.taken("some abcdefgh above 0 1 zzzzzzzz ;", some("abcdefgh", above(0, zzzzzzzz=1)))
        for name in (
            "", "abcdefghi", "A", "xY", "X", "x1", "1", "1x", "x_y", "_", "x-", "-x", ";", "x;", "x,y", "\u00e9", "\u00df",
            "\u0430", "x\u0301", "\u00aa", "x\n", "\nx", "x\t", "\uff58",
        ):
            self.refused(f"some {name} and 0", f"all {name} or 0", f"above 0 1 {name} ;", f"goes 2 0 1 a 3 {name} ;")

    def test_names_of_a_sum(self):
        self.refused("above 0 1 y 1 x ;", "above 0 1 x 1 x ;", "nought 0 1 x -1 x ;", "goes 2 0 1 ab 1 a ;")
        self.refused("above 0 1 a 1 c 1 b ;", "above 0 1 b 1 aa ;", "above 0 1 a 1 b 1 b ;", "above 0 1 a 1 b 1 a ;")
        self.taken("above 0 1 a 1 aa 1 ab 1 b ;", above(0, a=1, aa=1, ab=1, b=1))

    def test_a_share_nought(self):
        self.refused("above 0 0 x ;", "nought 1 1 x 0 y ;", "goes 3 1 0 x 1 y ;")

    def test_words_that_lack(self):
        for text, _ in PAIRS:
            words = text.split(" ")
            for many in range(len(words)):
                self.refused(" ".join(words[:many]))
        self.refused("above 0", "above 0 1 x", "above 0 1 ;", "above 0 x ;", "goes 2 ;", "goes 2", "not", "some x", "some")
        self.refused("some above 0 1 x ;", "all x", "above 1 x ;", "not ;", "nought")

    def test_words_that_are_too_many(self):
        for text, _ in PAIRS:
            for more in (";", "and 0", "0", "x", text):
                self.refused(text + " " + more)
        self.refused("above 0 ; ;", "not 1 and 0", "some x y above 0 1 x ;", "goes 2 3 4 ;", "above 0 1 x y ;", "above 0 1 2 x ;")

    def test_unknown_words(self):
        self.refused("below 0 ;", "x", "0", ";", "And 0", "AND 0", "and0", "not x", "some x x", "and 1 x", "xor 0", "true")
        self.refused("above 0 1 x :", "above 0 1 x . ;", "if and 0")

    def test_words_of_the_language_as_names(self):
        self.refused("some and 2 above 3 -2 x 1 y ; goes 4 0 1 x ;", "some and 0", "all or 1 and 0", "some not above")
        self.refused("some above 0 1 x ;", "all nought 0 ;", "some goes 2 0 ;", "some some", "some all x and 0")
        self.taken("some and and 2 above 3 -2 x 1 y ; goes 4 0 1 x ;", some("and", both(above(3, x=-2, y=1), goes(4, 0, x=1))))
        self.taken("above 0 1 and 2 not 3 or ;", above(0, **{"and": 1, "not": 2, "or": 3}))

    def test_forty_and_forty_one_within_one_another(self):
        self.assertEqual(MOST_WITHIN, 40)
        for bottom in (above(0, x=1), TRUE, FALSE, goes(2, 0)):
            for around in (no, lambda one: both(TRUE, one), lambda one: either(one), lambda one: some("x", one), lambda one: every("y", one)):
                one = bottom
                while depth(one) < 40:
                    one = around(one)
                self.taken(written(one), one)
                self.refused(written(around(one)))
        self.taken("not " * 39 + "and 0", nots(39, TRUE))
        self.refused("not " * 40 + "and 0", "not " * 3000 + "and 0", "some x " * 41 + "and 0", "and 1 " * 2000 + "or 0")

    def test_many_beside_one_another(self):
        self.taken("and 3000" + " or 0" * 3000, both(*[FALSE] * 3000))

    def test_the_error_stands_under_some_error(self):
        self.assertTrue(issubclass(NoNote, SomeError) and issubclass(NoNote, ValueError))

    def test_asked_again_it_tells_the_same(self):
        for text, one in PAIRS:
            first = read(text)
            self.refused(text + " ;")
            self.assertEqual(read(text), first)


if __name__ == "__main__":
    unittest.main()
