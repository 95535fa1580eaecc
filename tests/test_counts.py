"""Points 2, 3, 4 and 11: how many early words and rings there are."""

import unittest
from itertools import product
from math import gcd

from ringword.counts import early_count, ring_count
from ringword.errors import NoCount
from tests.samples import (
    LETTERS, check_refused, check_refuses_each, no_counts, plain_early, plain_turnings,
)

# How many letters, and the greatest length up to which all words are looked through.
SMALL = [(1, 12), (2, 12), (3, 7), (4, 6), (5, 5), (6, 4), (26, 2)]

SIGNS = {1: 1, 2: -1, 3: -1, 5: -1, 6: 1, 10: 1, 15: 1, 30: -1}


def words_of(many, long):
    """Every word of just long letters out of many ones."""
    return ["".join(row) for row in product(LETTERS[:many], repeat=long)]


def sign_of(number):
    """0 where a square divides the number, else by its many primes 1 or -1."""
    sign = 1
    for part in range(2, number + 1):
        if number % part == 0:
            number //= part
            sign = -sign
            if number % part == 0:
                return 0
    return sign


def early_by_divisors(many, long):
    """The sum over the divisors, each with its sign, by the length."""
    parts = [d for d in range(1, long + 1) if long % d == 0]
    return sum(sign_of(d) * many ** (long // d) for d in parts) // long


def rings_by_turns(many, long):
    """The words that stay as they are, for each turn, by the length."""
    return sum(many ** gcd(long, steps) for steps in range(long)) // long


class Helpers(unittest.TestCase):
    def test_the_signs(self):
        for number in range(1, 31):
            free = all(number % (k * k) for k in range(2, 6))
            primes = [p for p in (2, 3, 5, 7, 11, 13, 17, 19, 23, 29) if number % p == 0]
            self.assertEqual(sign_of(number), (-1) ** len(primes) if free else 0)


class EarlyCount(unittest.TestCase):
    def test_ordinary_numbers(self):
        told = [early_count(2, long) for long in range(1, 13)]
        self.assertEqual(told, [2, 1, 2, 3, 6, 9, 18, 30, 56, 99, 186, 335])
        self.assertEqual([early_count(3, long) for long in range(1, 6)], [3, 3, 8, 18, 48])

    def test_one_letter(self):
        self.assertEqual([early_count(1, long) for long in range(1, 61)], [1] + [0] * 59)

    def test_words_of_one_letter(self):
        for many in range(1, 27):
            self.assertEqual(early_count(many, 1), many)

    def test_against_all_words(self):
        for many, longest in SMALL:
            for long in range(1, longest + 1):
                with self.subTest(many=many, long=long):
                    found = sum(1 for word in words_of(many, long) if plain_early(word))
                    self.assertEqual(early_count(many, long), found)

    def test_against_the_sum_over_the_divisors(self):
        for many in range(1, 27):
            for long in range(1, 61):
                with self.subTest(many=many, long=long):
                    self.assertEqual(early_count(many, long), early_by_divisors(many, long))

    def test_the_greatest(self):
        parts = sum(sign * 26 ** (60 // part) for part, sign in SIGNS.items())
        self.assertEqual(parts % 60, 0)
        self.assertEqual(early_count(26, 60), parts // 60)
        self.assertIs(type(early_count(26, 60)), int)

    def test_no_many(self):
        for long in (1, 60):
            check_refuses_each(self, NoCount, no_counts(26), early_count, after=(long,))

    def test_no_long(self):
        for many in (1, 26):
            check_refuses_each(self, NoCount, no_counts(60), early_count, before=(many,))

    def test_neither(self):
        check_refused(self, NoCount, early_count, 0, 0)
        check_refused(self, NoCount, early_count, None, "a")


class RingCount(unittest.TestCase):
    def test_ordinary_numbers(self):
        told = [ring_count(2, long) for long in range(1, 13)]
        self.assertEqual(told, [2, 3, 4, 6, 8, 14, 20, 36, 60, 108, 188, 352])
        self.assertEqual([ring_count(3, long) for long in range(1, 6)], [3, 6, 11, 24, 51])

    def test_one_letter(self):
        self.assertEqual([ring_count(1, long) for long in range(1, 61)], [1] * 60)

    def test_words_of_one_letter(self):
        for many in range(1, 27):
            self.assertEqual(ring_count(many, 1), many)

    def test_against_all_words(self):
        for many, longest in SMALL:
            for long in range(1, longest + 1):
                with self.subTest(many=many, long=long):
                    found = {min(plain_turnings(word)) for word in words_of(many, long)}
                    self.assertEqual(ring_count(many, long), len(found))

    def test_against_the_words_that_each_turn_leaves(self):
        for many in range(1, 27):
            for long in range(1, 61):
                with self.subTest(many=many, long=long):
                    self.assertEqual(ring_count(many, long), rings_by_turns(many, long))

    def test_against_the_early_words_of_the_divisors(self):
        for many, long in ((26, 60), (26, 59), (2, 60), (25, 36), (1, 60), (7, 49)):
            parts = [d for d in range(1, long + 1) if long % d == 0]
            with self.subTest(many=many, long=long):
                told = sum(early_count(many, d) for d in parts)
                self.assertEqual(ring_count(many, long), told)

    def test_no_many(self):
        for long in (1, 60):
            check_refuses_each(self, NoCount, no_counts(26), ring_count, after=(long,))

    def test_no_long(self):
        for many in (1, 26):
            check_refuses_each(self, NoCount, no_counts(60), ring_count, before=(many,))

    def test_neither(self):
        check_refused(self, NoCount, ring_count, 27, 61)
        check_refused(self, NoCount, ring_count, [], True)


if __name__ == "__main__":
    unittest.main()
