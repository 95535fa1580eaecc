"""What the points share: numbers from 1 to a greatest one, and powers."""

import unittest

from ringword.errors import NoCount
from ringword.whole import need_count, power
from tests.samples import check_refuses_each, no_counts


class NeedCount(unittest.TestCase):
    def test_numbers_from_1_to_the_greatest(self):
        for most in (1, 12, 26, 60):
            for number in range(1, most + 1):
                self.assertIsNone(need_count(number, most))

    def test_no_counts(self):
        for most in (1, 12, 26, 60):
            check_refuses_each(self, NoCount, no_counts(most), need_count, after=(most,))


class Power(unittest.TestCase):
    def test_against_the_sign_for_powers(self):
        for base in range(1, 27):
            for times in range(61):
                self.assertEqual(power(base, times), base ** times)


if __name__ == "__main__":
    unittest.main()
