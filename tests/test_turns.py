"""Points 1, 2, 3 and 7: the least turning, and the steps between words."""

import unittest

from ringword.errors import NoWord
from ringword.turns import least_form, least_turn, steps_between
from ringword.words import turned
from tests.samples import (
    LETTERS, SMALL_WORDS, WORDS, all_words, check_refused, check_refuses_no_words,
    plain_turnings,
)


def plain_least_turn(word):
    """The first place whose turning no other one is less than."""
    rows = plain_turnings(word)
    for place, row in enumerate(rows):
        if not any(other < row for other in rows):
            return place


def plain_steps(one, other):
    """The first number of steps that leads from one to other, or None."""
    for steps, row in enumerate(plain_turnings(one)):
        if row == other:
            return steps
    return None


class Watched:
    """No word, which notes that it was looked at."""

    def __init__(self, name, notes):
        self.name = name
        self.notes = notes

    @property
    def __class__(self):
        self.notes.append(self.name)
        return object


class LeastTurn(unittest.TestCase):
    def test_ordinary_words(self):
        self.assertEqual(least_turn("banana"), 5)
        self.assertEqual(least_turn("cab"), 1)
        self.assertEqual(least_turn("abc"), 0)

    def test_the_first_of_alike_places(self):
        self.assertEqual(least_turn("aaaa"), 0)
        self.assertEqual(least_turn("baba"), 1)
        self.assertEqual(least_turn("bcabca"), 2)
        self.assertEqual(least_turn("ba" * 150), 1)

    def test_edges(self):
        self.assertEqual(least_turn("q"), 0)
        self.assertEqual(least_turn(LETTERS), 0)
        self.assertEqual(least_turn(LETTERS[::-1]), 25)
        self.assertEqual(least_turn("b" * 299 + "a"), 299)
        self.assertEqual(least_turn("b" + "a" * 299), 1)

    def test_against_all_turnings(self):
        for word in SMALL_WORDS + WORDS:
            with self.subTest(word=word[:40]):
                self.assertEqual(least_turn(word), plain_least_turn(word))

    def test_no_words(self):
        check_refuses_no_words(self, least_turn)


class LeastForm(unittest.TestCase):
    def test_ordinary_words(self):
        self.assertEqual(least_form("banana"), "abanan")
        self.assertEqual(least_form("cab"), "abc")
        self.assertEqual(least_form("baba"), "abab")

    def test_edges(self):
        self.assertEqual(least_form("q"), "q")
        self.assertEqual(least_form("a" * 300), "a" * 300)
        self.assertEqual(least_form("b" * 299 + "a"), "a" + "b" * 299)
        self.assertEqual(least_form(LETTERS), LETTERS)
        self.assertEqual(least_form(LETTERS[::-1]), "a" + LETTERS[:0:-1])

    def test_against_all_turnings(self):
        for word in SMALL_WORDS + WORDS:
            with self.subTest(word=word[:40]):
                self.assertEqual(least_form(word), min(plain_turnings(word)))
                self.assertEqual(least_form(word), turned(word, least_turn(word)))

    def test_alike_just_where_one_ring(self):
        words = all_words("ab", 5) + all_words("abc", 3)
        for one in words:
            for other in words:
                alike = least_form(one) == least_form(other)
                self.assertEqual(alike, other in plain_turnings(one))

    def test_no_words(self):
        check_refuses_no_words(self, least_form)


class StepsBetween(unittest.TestCase):
    def test_ordinary_words(self):
        self.assertEqual(steps_between("abc", "cab"), 2)
        self.assertEqual(steps_between("cab", "abc"), 1)
        self.assertEqual(steps_between("abc", "abc"), 0)

    def test_the_least_of_several(self):
        self.assertEqual(steps_between("abab", "abab"), 0)
        self.assertEqual(steps_between("abab", "baba"), 1)
        self.assertEqual(steps_between("aaaa", "aaaa"), 0)
        self.assertEqual(steps_between("bcabca", "abcabc"), 2)

    def test_no_ring(self):
        for one, other in (
            ("abc", "acb"), ("aab", "abb"), ("a", "b"), ("abc", "abd"),
            ("a" * 300, "a" * 299 + "b"),
        ):
            with self.subTest(one=one[:40], other=other[:40]):
                self.assertIsNone(steps_between(one, other))
                self.assertIsNone(steps_between(other, one))

    def test_words_of_unlike_length(self):
        for one, other in (("ab", "abab"), ("a", "aa"), ("abc", "ab"), ("a" * 299, "a" * 300)):
            with self.subTest(one=one[:40], other=other[:40]):
                self.assertIsNone(steps_between(one, other))
                self.assertIsNone(steps_between(other, one))

    def test_words_of_300_letters(self):
        one = "a" * 299 + "b"
        self.assertEqual(steps_between(one, "b" + "a" * 299), 299)
        self.assertEqual(steps_between("b" + "a" * 299, one), 1)

    def test_against_all_turnings(self):
        words = all_words("ab", 6) + all_words("abc", 3)
        for one in words:
            for other in words:
                steps = steps_between(one, other)
                self.assertEqual(steps, plain_steps(one, other))
                if steps is not None:
                    self.assertEqual(turned(one, steps), other)

    def test_each_turning_of_each_word(self):
        for word in WORDS:
            for place in range(0, len(word), 7):
                other = turned(word, place)
                with self.subTest(word=word[:40], place=place):
                    self.assertEqual(steps_between(word, other), plain_steps(word, other))

    def test_no_words(self):
        check_refuses_no_words(self, steps_between, after=("ab",))
        check_refuses_no_words(self, steps_between, before=("ab",))
        check_refuses_no_words(self, steps_between, after=(None,))
        check_refuses_no_words(self, steps_between, before=("",))

    def test_the_first_word_is_looked_at_first(self):
        notes = []
        check_refused(self, NoWord, steps_between, Watched("one", notes), Watched("other", notes))
        self.assertNotIn("other", notes)


if __name__ == "__main__":
    unittest.main()
