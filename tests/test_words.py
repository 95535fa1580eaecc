"""Points 1, 3 and 5: what a word is, and how it is turned."""

import unittest

from ringword.words import is_word, need_word, turned, turnings
from tests.samples import (
    LETTERS, NO_WORDS, SMALL_WORDS, WORDS, check_refuses_no_words, plain_turnings,
)


class IsWord(unittest.TestCase):
    def test_words(self):
        for word in WORDS + list(LETTERS):
            with self.subTest(word=word[:40]):
                self.assertIs(is_word(word), True)

    def test_no_words(self):
        for thing in NO_WORDS:
            with self.subTest(thing=repr(thing)[:40]):
                self.assertIs(is_word(thing), False)

    def test_the_lengths_at_the_edge(self):
        for long, told in ((0, False), (1, True), (299, True), (300, True), (301, False)):
            with self.subTest(long=long):
                self.assertIs(is_word("q" * long), told)

    def test_each_other_sign_at_each_place(self):
        others = [chr(k) for k in range(32, 127) if chr(k) not in LETTERS] + ["\n"]
        for sign in others:
            for text in (sign, sign + "ab", "a" + sign + "b", "ab" + sign):
                with self.subTest(text=text):
                    self.assertIs(is_word(text), False)


class NeedWord(unittest.TestCase):
    def test_words(self):
        for word in WORDS:
            with self.subTest(word=word[:40]):
                self.assertIsNone(need_word(word))

    def test_no_words(self):
        check_refuses_no_words(self, need_word)


class Turned(unittest.TestCase):
    def test_the_document_example(self):
        self.assertEqual(turned("abc", -1), "cab")

    def test_by_each_place(self):
        self.assertEqual([turned("abc", k) for k in range(3)], ["abc", "bca", "cab"])

    def test_by_nothing_and_by_the_length(self):
        for word in WORDS:
            with self.subTest(word=word[:40]):
                self.assertEqual(turned(word, 0), word)
                self.assertEqual(turned(word, len(word)), word)
                self.assertEqual(turned(word, -len(word)), word)

    def test_beyond_the_places(self):
        rows = [turned("abcd", k) for k in (4, 5, 6, 7, 8, 9, -1, -2, -3, -4, -5)]
        told = ["abcd", "bcda", "cdab", "dabc", "abcd", "bcda"]
        told += ["dabc", "cdab", "bcda", "abcd", "dabc"]
        self.assertEqual(rows, told)

    def test_by_very_large_numbers(self):
        large = 10 ** 199
        for word in WORDS:
            long = len(word)
            for extra in (0, 1, long - 1):
                with self.subTest(word=word[:40], extra=extra):
                    told = plain_turnings(word)[extra % long]
                    self.assertEqual(turned(word, large * long + extra), told)
                    self.assertEqual(turned(word, -large * long + extra), told)

    def test_against_plain_turnings(self):
        for word in SMALL_WORDS:
            rows = plain_turnings(word)
            for steps in range(-2 * len(word) - 1, 2 * len(word) + 2):
                self.assertEqual(turned(word, steps), rows[steps % len(word)])

    def test_no_words(self):
        check_refuses_no_words(self, turned, after=(1,))

    def test_the_word_comes_ahead_of_the_steps(self):
        check_refuses_no_words(self, turned, after=(None,))


class Turnings(unittest.TestCase):
    def test_ordinary_words(self):
        self.assertEqual(turnings("abc"), ["abc", "bca", "cab"])
        self.assertEqual(turnings("a"), ["a"])

    def test_words_of_alike_turnings(self):
        self.assertEqual(turnings("aaa"), ["aaa", "aaa", "aaa"])
        self.assertEqual(turnings("abab"), ["abab", "baba", "abab", "baba"])

    def test_against_plain_turnings(self):
        for word in SMALL_WORDS + WORDS:
            with self.subTest(word=word[:40]):
                rows = turnings(word)
                self.assertIs(type(rows), list)
                self.assertEqual(rows, plain_turnings(word))

    def test_a_told_list_is_the_askers_own(self):
        rows = turnings("abc")
        rows[0] = "changed"
        rows.append("more")
        self.assertEqual(turnings("abc"), ["abc", "bca", "cab"])

    def test_a_told_list_is_not_changed_by_what_is_asked_later(self):
        rows = turnings("abc")
        turnings("abc").clear()
        turnings("zyx")
        self.assertEqual(rows, ["abc", "bca", "cab"])

    def test_no_words(self):
        check_refuses_no_words(self, turnings)


if __name__ == "__main__":
    unittest.main()
