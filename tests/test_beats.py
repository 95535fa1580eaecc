"""Points 2, 3, 4 and 8: borders, beat and root."""

import unittest

from ringword.beats import beat, borders, root
from tests.samples import LETTERS, SMALL_WORDS, WORDS, check_refuses_no_words


def plain_borders(word):
    """All lengths for which the beginning is the ending, letter by letter."""
    found = []
    for long in range(1, len(word)):
        behind = len(word) - long
        if all(word[k] == word[behind + k] for k in range(long)):
            found.append(long)
    return found


def plain_beat(word):
    """The first p for which each letter with one p places behind is like that one."""
    for p in range(1, len(word) + 1):
        if all(word[k] == word[k + p] for k in range(len(word) - p)):
            return p


def plain_root(word):
    """The first beginning which some times one behind the other is the word."""
    for long in range(1, len(word) + 1):
        for times in range(1, len(word) + 1):
            if long * times == len(word) and word[:long] * times == word:
                return (word[:long], times)


class Borders(unittest.TestCase):
    def test_ordinary_words(self):
        self.assertEqual(borders("abaab"), [2])
        self.assertEqual(borders("abaaba"), [1, 3])
        self.assertEqual(borders("banana"), [])
        self.assertEqual(borders("anana"), [1, 3])
        self.assertEqual(borders("abab"), [2])

    def test_edges(self):
        self.assertEqual(borders("q"), [])
        self.assertEqual(borders("aa"), [1])
        self.assertEqual(borders("ab"), [])
        self.assertEqual(borders("aaaa"), [1, 2, 3])
        self.assertEqual(borders(LETTERS), [])
        self.assertEqual(borders("a" * 300), list(range(1, 300)))
        self.assertEqual(borders("ab" * 150), list(range(2, 300, 2)))
        self.assertEqual(borders("a" * 299 + "b"), [])
        self.assertEqual(borders("a" + "b" * 298 + "a"), [1])

    def test_against_all_lengths(self):
        for word in SMALL_WORDS + WORDS:
            with self.subTest(word=word[:40]):
                told = borders(word)
                self.assertIs(type(told), list)
                self.assertEqual(told, plain_borders(word))

    def test_a_told_list_is_the_askers_own(self):
        told = borders("aaaa")
        told.append(9)
        told[0] = 7
        self.assertEqual(borders("aaaa"), [1, 2, 3])
        self.assertEqual(beat("aaaa"), 1)
        self.assertEqual(told, [7, 2, 3, 9])

    def test_no_words(self):
        check_refuses_no_words(self, borders)


class Beat(unittest.TestCase):
    def test_ordinary_words(self):
        self.assertEqual(beat("abaab"), 3)
        self.assertEqual(beat("abaaba"), 3)
        self.assertEqual(beat("banana"), 6)
        self.assertEqual(beat("anana"), 2)
        self.assertEqual(beat("abcab"), 3)

    def test_edges(self):
        self.assertEqual(beat("q"), 1)
        self.assertEqual(beat("aa"), 1)
        self.assertEqual(beat("ab"), 2)
        self.assertEqual(beat(LETTERS), 26)
        self.assertEqual(beat("a" * 300), 1)
        self.assertEqual(beat("ab" * 150), 2)
        self.assertEqual(beat("abc" * 100), 3)
        self.assertEqual(beat("a" * 299 + "b"), 300)
        self.assertEqual(beat("b" + "a" * 298 + "b"), 299)

    def test_against_all_places(self):
        for word in SMALL_WORDS + WORDS:
            with self.subTest(word=word[:40]):
                self.assertEqual(beat(word), plain_beat(word))

    def test_it_goes_together_with_the_borders(self):
        for word in SMALL_WORDS + WORDS:
            with self.subTest(word=word[:40]):
                places = [len(word) - long for long in borders(word)] + [len(word)]
                self.assertEqual(beat(word), min(places))

    def test_no_words(self):
        check_refuses_no_words(self, beat)


class Root(unittest.TestCase):
    def test_ordinary_words(self):
        self.assertEqual(root("abab"), ("ab", 2))
        self.assertEqual(root("aabaab"), ("aab", 2))
        self.assertEqual(root("banana"), ("banana", 1))
        self.assertEqual(root("abcabcabc"), ("abc", 3))

    def test_words_that_break_off_within_a_beat(self):
        self.assertEqual(root("ababa"), ("ababa", 1))
        self.assertEqual(root("abaab"), ("abaab", 1))
        self.assertEqual(root("aabaaba"), ("aabaaba", 1))

    def test_edges(self):
        self.assertEqual(root("q"), ("q", 1))
        self.assertEqual(root("aa"), ("a", 2))
        self.assertEqual(root("a" * 7), ("a", 7))
        self.assertEqual(root(LETTERS), (LETTERS, 1))
        self.assertEqual(root("a" * 300), ("a", 300))
        self.assertEqual(root("ab" * 150), ("ab", 150))
        self.assertEqual(root(("a" * 149 + "b") * 2), ("a" * 149 + "b", 2))
        self.assertEqual(root("a" * 299 + "b"), ("a" * 299 + "b", 1))
        self.assertEqual(root("ab" * 149 + "aa"), ("ab" * 149 + "aa", 1))

    def test_it_is_a_pair(self):
        for word in ("q", "abab", "banana", "aaa"):
            told = root(word)
            self.assertIs(type(told), tuple)
            self.assertEqual(len(told), 2)
            self.assertIs(type(told[0]), str)
            self.assertIs(type(told[1]), int)

    def test_against_all_beginnings(self):
        for word in SMALL_WORDS + WORDS:
            with self.subTest(word=word[:40]):
                self.assertEqual(root(word), plain_root(word))

    def test_each_small_word_again_and_again(self):
        for word in SMALL_WORDS[:60]:
            short, times = plain_root(word)
            for many in (1, 2, 3, 5):
                with self.subTest(word=word, many=many):
                    self.assertEqual(root(word * many), (short, times * many))

    def test_no_words(self):
        check_refuses_no_words(self, root)


if __name__ == "__main__":
    unittest.main()
