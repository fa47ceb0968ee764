"""The classes of errors (point 4 and the part on errors.py)."""

import inspect
import unittest

from cornerranks import errors
from cornerranks.errors import CornerError

WITH_GIVEN = ("InvalidTable", "InvalidSquare", "InvalidLot", "InvalidNumber", "InvalidCarrying", "InvalidBand")
WITH_INDEX = ("InvalidRow", "InvalidRanks", "InvalidCarrier", "InvalidSizes", "InvalidBases", "InvalidWeb",
              "InvalidStairs")
BARE = ("NotRegular", "NotLeast", "UnlikeSizes")
VALUES = (None, 0, -7, True, 10 ** 5000, "text", b"bytes", (), ((1, (2, 3)),), [1, [2]], {"a": 1}, object(), len)


class Classes(unittest.TestCase):
    def made_with(self, name, attribute):
        made = getattr(errors, name)
        for value in VALUES:
            by_position, by_name = made(value), made(**{attribute: value})
            self.assertIs(getattr(by_position, attribute), value)
            self.assertIs(getattr(by_name, attribute), value)

    def test_given_is_kept(self):
        for name in WITH_GIVEN:
            with self.subTest(name):
                self.made_with(name, "given")

    def test_index_is_kept(self):
        for name in WITH_INDEX:
            with self.subTest(name):
                self.made_with(name, "index")

    def test_the_attribute_is_needed(self):
        for name in WITH_GIVEN + WITH_INDEX:
            with self.subTest(name), self.assertRaises(TypeError):
                getattr(errors, name)()

    def test_without_attributes(self):
        for name in BARE + ("CornerError",):
            with self.subTest(name):
                made = getattr(errors, name)()
                self.assertFalse(hasattr(made, "given") or hasattr(made, "index"))

    def test_a_list_is_not_copied_or_changed(self):
        given = [1, [2]]
        self.assertIs(errors.InvalidLot(given).given, given)
        self.assertEqual(given, [1, [2]])

    def test_base_class(self):
        self.assertEqual(CornerError.__bases__, (ValueError,))
        python_s_own = CornerError.__mro__[1:]
        for name in WITH_GIVEN + WITH_INDEX + BARE:
            with self.subTest(name):
                made = getattr(errors, name)
                self.assertEqual(made.__bases__, (CornerError,))
                self.assertEqual(made.__mro__, (made, CornerError) + python_s_own)

    def test_each_stands_in_its_file(self):
        for name in WITH_GIVEN + WITH_INDEX + BARE + ("CornerError",):
            with self.subTest(name):
                made = getattr(errors, name)
                self.assertTrue(inspect.isclass(made))
                self.assertEqual((made.__name__, made.__module__), (name, "cornerranks.errors"))

    def test_they_are_raised_and_caught(self):
        for name in WITH_GIVEN + WITH_INDEX:
            for base in (getattr(errors, name), CornerError, ValueError):
                with self.subTest(name, base=base), self.assertRaises(base):
                    raise getattr(errors, name)(3)


if __name__ == "__main__":
    unittest.main()
