"""Points 1, 2, 3 and 6: early words, and cuttings into early pieces."""

import unittest
from itertools import combinations

from ringword.pieces import cuts, is_cutting, is_early, pieces
from tests.samples import (
    LETTERS, NO_WORDS, SMALL_WORDS, WORDS, Odd, check_refuses_no_words, plain_early,
)


def all_cuttings(word):
    """Every list of texts that, one behind the other, are the word."""
    found = []
    for many in range(len(word)):
        for inner in combinations(range(1, len(word)), many):
            ends = [0, *inner, len(word)]
            found.append([word[a:b] for a, b in zip(ends, ends[1:])])
    return found


def is_right(rows):
    """True where each is early, and none is less than the next one."""
    falls = all(one >= other for one, other in zip(rows, rows[1:]))
    return falls and all(plain_early(row) for row in rows)


class IsEarly(unittest.TestCase):
    def test_the_document_examples(self):
        for word in ("aab", "b"):
            self.assertIs(is_early(word), True)
        for word in ("aba", "abab"):
            self.assertIs(is_early(word), False)

    def test_words_of_one_letter(self):
        for letter in LETTERS:
            self.assertIs(is_early(letter), True)

    def test_words_of_all_letters_alike(self):
        for long in (2, 3, 10, 300):
            self.assertIs(is_early("a" * long), False)

    def test_words_of_a_shorter_word_again_and_again(self):
        for word in ("abab", "aabaab", "abcabc", "ab" * 150, "abc" * 100):
            self.assertIs(is_early(word), False)

    def test_rising_and_falling(self):
        self.assertIs(is_early(LETTERS), True)
        self.assertIs(is_early(LETTERS[::-1]), False)

    def test_words_of_300_letters(self):
        self.assertIs(is_early("a" * 299 + "b"), True)
        self.assertIs(is_early("a" + "b" * 299), True)
        self.assertIs(is_early("a" * 298 + "ba"), False)

    def test_against_the_plain_meaning(self):
        for word in SMALL_WORDS + WORDS:
            with self.subTest(word=word[:40]):
                self.assertIs(is_early(word), plain_early(word))

    def test_no_words(self):
        check_refuses_no_words(self, is_early)


class Pieces(unittest.TestCase):
    def test_ordinary_words(self):
        self.assertEqual(pieces("banana"), ["b", "an", "an", "a"])
        self.assertEqual(pieces("ringword"), ["r", "in", "gwor", "d"])
        self.assertEqual(pieces("abaab"), ["ab", "aab"])

    def test_edges(self):
        self.assertEqual(pieces("q"), ["q"])
        self.assertEqual(pieces("aaa"), ["a", "a", "a"])
        self.assertEqual(pieces("abab"), ["ab", "ab"])
        self.assertEqual(pieces(LETTERS), [LETTERS])
        self.assertEqual(pieces(LETTERS[::-1]), list(LETTERS[::-1]))
        self.assertEqual(pieces("a" * 300), ["a"] * 300)
        self.assertEqual(pieces("ab" * 150), ["ab"] * 150)
        self.assertEqual(pieces("a" * 299 + "b"), ["a" * 299 + "b"])
        self.assertEqual(pieces("b" * 299 + "a"), ["b"] * 299 + ["a"])

    def test_what_is_promised_of_them(self):
        for word in SMALL_WORDS + WORDS:
            with self.subTest(word=word[:40]):
                rows = pieces(word)
                self.assertIs(type(rows), list)
                self.assertEqual("".join(rows), word)
                self.assertTrue(is_right(rows))

    def test_against_all_cuttings(self):
        for word in SMALL_WORDS:
            right = [rows for rows in all_cuttings(word) if is_right(rows)]
            self.assertEqual(right, [pieces(word)])

    def test_a_told_list_is_the_askers_own(self):
        rows = pieces("banana")
        rows.reverse()
        rows.append("x")
        self.assertEqual(pieces("banana"), ["b", "an", "an", "a"])
        self.assertEqual(rows, ["a", "an", "an", "b", "x"])

    def test_no_words(self):
        check_refuses_no_words(self, pieces)


class Cuts(unittest.TestCase):
    def test_ordinary_words(self):
        self.assertEqual(cuts("banana"), [0, 1, 3, 5])
        self.assertEqual(cuts("ringword"), [0, 1, 3, 7])

    def test_edges(self):
        self.assertEqual(cuts("q"), [0])
        self.assertEqual(cuts("aaa"), [0, 1, 2])
        self.assertEqual(cuts(LETTERS), [0])
        self.assertEqual(cuts(LETTERS[::-1]), list(range(26)))
        self.assertEqual(cuts("ab" * 150), list(range(0, 300, 2)))

    def test_they_are_where_the_pieces_begin(self):
        for word in SMALL_WORDS + WORDS:
            with self.subTest(word=word[:40]):
                told = []
                place = 0
                for row in pieces(word):
                    told.append(place)
                    place += len(row)
                places = cuts(word)
                self.assertIs(type(places), list)
                self.assertEqual(places, told)

    def test_a_told_list_is_the_askers_own(self):
        places = cuts("banana")
        places[0] = 9
        places.pop()
        self.assertEqual(cuts("banana"), [0, 1, 3, 5])
        self.assertEqual(pieces("banana"), ["b", "an", "an", "a"])

    def test_no_words(self):
        check_refuses_no_words(self, cuts)


class IsCutting(unittest.TestCase):
    def test_the_pieces_themselves(self):
        for word in SMALL_WORDS + WORDS:
            with self.subTest(word=word[:40]):
                self.assertIs(is_cutting(word, pieces(word)), True)

    def test_just_one_of_all_cuttings(self):
        for word in ("banana", "abab", "aaaa", "aabab", "zyx", "abc", "q"):
            right = [rows for rows in all_cuttings(word) if is_cutting(word, rows)]
            self.assertEqual(right, [pieces(word)])

    def test_lists_that_are_a_little_off(self):
        self.assertIs(is_cutting("banana", ["b", "an", "an", "a"]), True)
        off = [
            ["b", "anan", "a"], ["ban", "an", "a"], ["banana"],
            ["b", "a", "n", "an", "a"], list("banana"),
            ["an", "b", "an", "a"], ["b", "an", "a", "an"], ["a", "an", "an", "b"],
            ["b", "an", "an"], ["an", "an", "a"], ["b", "an", "a"],
            ["b", "an", "an", "a", "a"], ["b", "b", "an", "an", "a"],
            ["b", "an", "an", "a", ""], ["", "b", "an", "an", "a"],
            ["b", "an", "an", "A"], ["b", "an", "an", "a "],
        ]
        for rows in off:
            with self.subTest(rows=rows):
                self.assertIs(is_cutting("banana", rows), False)

    def test_the_cutting_of_another_word(self):
        self.assertIs(is_cutting("ab", pieces("ba")), False)
        self.assertIs(is_cutting("aa", pieces("aaa")), False)

    def test_things_of_other_kinds(self):
        things = NO_WORDS + [
            ("b", "an", "an", "a"), "banana", "b an an a", ["b", "an", "an", None],
            ["b", "an", "an", ["a"]], ["b", "an", "an", b"a"], [0, 1, 3, 5],
            [["b", "an", "an", "a"]], [None], [True], [1], [b"banana"],
            {"b": 1, "an": 2, "a": 3}, {"b", "an", "a"}, iter(["b", "an", "an", "a"]),
            ["b", "an", "an", Odd()], [Odd()] * 4,
        ]
        for thing in things:
            with self.subTest(thing=repr(thing)[:40]):
                self.assertIs(is_cutting("banana", thing), False)

    def test_things_of_other_kinds_for_a_word_of_one_piece(self):
        for thing in ("a", ("a",), {"a": 1}, {"a"}, b"a", [b"a"], [["a"]], [Odd()], Odd(), 1):
            with self.subTest(thing=repr(thing)[:40]):
                self.assertIs(is_cutting("a", thing), False)

    def test_what_is_handed_in_stays_as_it_is(self):
        for rows in (["b", "an", "an", "a"], ["a", "b", None], []):
            copy = list(rows)
            is_cutting("banana", rows)
            self.assertEqual(rows, copy)

    def test_no_words(self):
        check_refuses_no_words(self, is_cutting, after=(["a"],))

    def test_the_word_comes_ahead_of_the_rows(self):
        for rows in (None, 1, [], "a"):
            check_refuses_no_words(self, is_cutting, after=(rows,))


if __name__ == "__main__":
    unittest.main()
