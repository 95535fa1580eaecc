"""Points 2, 3, 4, 9 and 10: the early words of some letters, in order."""

import unittest

from ringword.errors import NoCount, NoSigns, NoWord, TooMany
from ringword.rows import early_words, next_early
from tests.samples import (
    NO_SIGNS, all_words, check_refused, check_refuses_each, check_refuses_no_words,
    early_by_looking, no_counts, plain_early,
)

NO_LONGEST = no_counts(12)

# Signs and the greatest longest for which all their words can be made.
AT_THE_BOUND = [("ab", 12), ("bc", 12), ("abc", 7), ("abcd", 6), ("abcde", 5), ("abcdef", 4)]

SMALL = [
    ("a", 1), ("z", 12), ("ab", 1), ("ab", 2), ("ab", 9), ("az", 7), ("my", 8), ("abc", 1),
    ("abc", 5), ("bdz", 5), ("abcd", 4), ("aeio", 4), ("vwxyz", 3), ("abcdef", 3), ("acegik", 1),
]


class EarlyWords(unittest.TestCase):
    def test_ordinary_signs(self):
        self.assertEqual(early_words("ab", 3), ["a", "aab", "ab", "abb", "b"])
        self.assertEqual(early_words("ab", 2), ["a", "ab", "b"])
        self.assertEqual(early_words("xz", 3), ["x", "xxz", "xz", "xzz", "z"])
        self.assertEqual(early_words("abc", 2), ["a", "ab", "ac", "b", "bc", "c"])

    def test_words_of_one_letter(self):
        self.assertEqual(early_words("abcdef", 1), ["a", "b", "c", "d", "e", "f"])
        self.assertEqual(early_words("q", 1), ["q"])

    def test_one_sign(self):
        for longest in range(1, 13):
            self.assertEqual(early_words("z", longest), ["z"])

    def test_against_all_words_of_the_signs(self):
        for signs, longest in SMALL + AT_THE_BOUND:
            with self.subTest(signs=signs, longest=longest):
                told = early_words(signs, longest)
                self.assertIs(type(told), list)
                self.assertEqual(told, early_by_looking(signs, longest))

    def test_the_bound(self):
        self.assertEqual(len(early_words("ab", 12)), 747)
        self.assertEqual(len(early_words("abcd", 6)), 964)

    def test_one_beyond_the_bound(self):
        for signs, longest in AT_THE_BOUND:
            if longest < 12:
                with self.subTest(signs=signs, longest=longest):
                    check_refused(self, TooMany, early_words, signs, longest + 1)
        check_refused(self, TooMany, early_words, "abc", 12)
        check_refused(self, TooMany, early_words, "abcdef", 12)

    def test_a_told_list_is_the_askers_own(self):
        told = early_words("ab", 2)
        told[0] = "changed"
        told.append("more")
        self.assertEqual(early_words("ab", 2), ["a", "ab", "b"])
        self.assertEqual(told, ["changed", "ab", "b", "more"])

    def test_no_signs(self):
        for longest in (1, 2, 12):
            check_refuses_each(self, NoSigns, NO_SIGNS, early_words, after=(longest,))

    def test_no_longest(self):
        for signs in ("a", "ab", "abcdef"):
            check_refuses_each(self, NoCount, NO_LONGEST, early_words, before=(signs,))

    def test_signs_come_ahead_of_longest(self):
        for longest in (0, 13, -1, None, True, "1"):
            check_refuses_each(self, NoSigns, NO_SIGNS, early_words, after=(longest,))

    def test_longest_comes_ahead_of_too_many(self):
        check_refused(self, NoCount, early_words, "abcdef", 13)
        check_refused(self, NoCount, early_words, "ab", 13)


class NextEarly(unittest.TestCase):
    def test_ordinary_words(self):
        self.assertEqual(next_early("a", "ab", 3), "aab")
        self.assertEqual(next_early("aab", "ab", 3), "ab")
        self.assertEqual(next_early("ab", "ab", 3), "abb")
        self.assertEqual(next_early("abb", "ab", 3), "b")
        self.assertEqual(next_early("m", "mr", 4), "mmmr")
        self.assertEqual(next_early("ac", "ac", 2), "c")

    def test_none_behind_the_last_one(self):
        for signs, last in (("a", "a"), ("ab", "b"), ("abcdef", "f"), ("xz", "z")):
            for longest in range(1, 13):
                with self.subTest(signs=signs, longest=longest):
                    self.assertIsNone(next_early(last, signs, longest))

    def test_words_of_one_letter(self):
        told = [next_early(word, "abcdef", 1) for word in "abcdef"]
        self.assertEqual(told, ["b", "c", "d", "e", "f", None])

    def test_from_the_first_to_the_last(self):
        for signs, longest in SMALL + AT_THE_BOUND:
            with self.subTest(signs=signs, longest=longest):
                told = early_words(signs, longest)
                behind = [next_early(word, signs, longest) for word in told]
                self.assertEqual(behind, told[1:] + [None])

    def test_too_many_is_not_refused(self):
        for signs, longest in (("abc", 8), ("bxy", 8), ("abcd", 7), ("abcde", 6), ("abcdef", 5)):
            with self.subTest(signs=signs, longest=longest):
                check_refused(self, TooMany, early_words, signs, longest)
                told = early_by_looking(signs, longest)
                behind = [next_early(word, signs, longest) for word in told]
                self.assertEqual(behind, told[1:] + [None])

    def test_the_greatest_signs_and_longest(self):
        for word, told in (
            ("a", "a" * 11 + "b"), ("a" * 11 + "b", "a" * 11 + "c"),
            ("a" * 11 + "f", "a" * 10 + "b"), ("a" * 10 + "b", "a" * 10 + "bb"),
            ("ab", "ab" * 5 + "ac"), ("ab" * 5 + "ac", "ab" * 5 + "ad"),
            ("abc", "abc" * 3 + "abd"), ("ef", "ef" * 5 + "f"), ("e", "e" * 11 + "f"),
            ("a" + "f" * 10, "a" + "f" * 10 + "b"), ("a" + "f" * 11, "b"),
            ("e" + "f" * 10, "e" + "f" * 11), ("e" + "f" * 11, "f"),
        ):
            with self.subTest(word=word):
                self.assertTrue(plain_early(word))
                self.assertEqual(next_early(word, "abcdef", 12), told)

    def test_no_words(self):
        check_refuses_no_words(self, next_early, after=("ab", 3))
        check_refuses_no_words(self, next_early, after=("abcdef", 12))

    def test_the_word_comes_ahead_of_signs_and_longest(self):
        for after in (("ba", 3), (None, 3), ("ab", 0), ("ab", None), ("", True), ([], 13)):
            check_refuses_no_words(self, next_early, after=after)

    def test_no_signs(self):
        for word, longest in (("a", 1), ("ab", 12), ("ba", 3), ("q", 1), ("a" * 300, 2)):
            check_refuses_each(
                self, NoSigns, NO_SIGNS, next_early, before=(word,), after=(longest,)
            )

    def test_signs_come_ahead_of_longest(self):
        for longest in (0, 13, -1, None, True, "1"):
            check_refuses_each(
                self, NoSigns, NO_SIGNS, next_early, before=("a",), after=(longest,)
            )

    def test_no_longest(self):
        for word, signs in (("a", "a"), ("ab", "ab"), ("a", "abcdef")):
            check_refuses_each(self, NoCount, NO_LONGEST, next_early, before=(word, signs))

    def test_longest_comes_ahead_of_a_word_that_is_none_of_these(self):
        for word in ("ba", "aa", "x", "ab" * 150):
            check_refuses_each(self, NoCount, NO_LONGEST, next_early, before=(word, "ab"))

    def test_a_word_that_is_not_early(self):
        for word in ("aa", "ba", "aba", "abab", "bb", "bab"):
            with self.subTest(word=word):
                check_refused(self, NoWord, next_early, word, "ab", 12)
                check_refused(self, NoWord, next_early, word, "abcdef", 12)

    def test_a_word_with_a_letter_that_is_no_sign(self):
        for word, signs in (
            ("c", "ab"), ("abc", "ab"), ("abb", "ac"), ("b", "ac"), ("a", "bc"), ("abz", "ab"),
            ("z", "abcdef"), ("ag", "abcdef"), ("a", "z"), ("acb", "ac"),
        ):
            with self.subTest(word=word, signs=signs):
                check_refused(self, NoWord, next_early, word, signs, 12)

    def test_a_word_that_is_too_long(self):
        for word, longest in (("ab", 1), ("aab", 2), ("a" * 12 + "b", 12), ("a" * 299 + "b", 12)):
            with self.subTest(word=word[:40], longest=longest):
                self.assertTrue(plain_early(word))
                check_refused(self, NoWord, next_early, word, "ab", longest)

    def test_a_word_of_just_the_longest(self):
        self.assertEqual(next_early("ab", "ab", 2), "b")
        self.assertEqual(next_early("a" * 11 + "b", "ab", 12), "a" * 10 + "b")

    def test_all_words_that_are_none_of_these(self):
        told = early_words("bd", 4)
        for word in all_words("abde", 5):
            if word not in told:
                check_refused(self, NoWord, next_early, word, "bd", 4)


if __name__ == "__main__":
    unittest.main()
