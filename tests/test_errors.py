"""Point 4: the refusals."""

import unittest

from ringword import errors

NAMES = ["NoWord", "NoSigns", "NoCount", "TooMany", "NoRing", "Twice"]


class Errors(unittest.TestCase):
    def test_the_base_stands_straight_under_value_error(self):
        self.assertEqual(errors.WordError.__bases__, (ValueError,))

    def test_each_stands_straight_under_word_error(self):
        for name in NAMES:
            with self.subTest(name=name):
                self.assertEqual(getattr(errors, name).__bases__, (errors.WordError,))

    def test_none_stands_under_another(self):
        for one in NAMES:
            for other in NAMES:
                if one != other:
                    with self.subTest(one=one, other=other):
                        self.assertFalse(issubclass(getattr(errors, one), getattr(errors, other)))

    def test_each_has_its_own_name(self):
        for name in NAMES + ["WordError"]:
            self.assertEqual(getattr(errors, name).__name__, name)

    def test_each_can_be_raised_and_caught_by_its_bases(self):
        for name in NAMES:
            for base in (errors.WordError, ValueError):
                with self.subTest(name=name, base=base):
                    with self.assertRaises(base):
                        raise getattr(errors, name)("why")


if __name__ == "__main__":
    unittest.main()
