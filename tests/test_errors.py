import unittest

from somenumber.errors import NoNote, NotPlain, NoValue, SomeError

KINDS = (NoValue, NotPlain, NoNote)


class Errors(unittest.TestCase):
    def test_any_refusal_is_a_value_error(self):
        self.assertTrue(issubclass(SomeError, ValueError))

    def test_each_kind_stands_right_under_some_error(self):
        for kind in KINDS:
            self.assertEqual(kind.__bases__, (SomeError,))

    def test_no_kind_is_taken_as_another(self):
        for kind in KINDS:
            for other in KINDS:
                if kind is not other:
                    self.assertFalse(issubclass(kind, other))

    def test_each_kind_is_taken_by_what_it_stands_under(self):
        for kind in KINDS:
            for above in (kind, SomeError, ValueError):
                with self.assertRaises(above):
                    raise kind("refused")


if __name__ == "__main__":
    unittest.main()
