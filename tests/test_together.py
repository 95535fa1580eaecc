"""Point 2 over the whole program: what its parts tell goes together."""

import unittest

from ringword import errors
from ringword.beats import beat, borders, root
from ringword.counts import early_count, ring_count
from ringword.pieces import cuts, is_cutting, is_early, pieces
from ringword.rings import Rings
from ringword.rows import early_words, next_early
from ringword.turns import least_form, least_turn, steps_between
from ringword.words import need_word, turned, turnings
from tests.samples import (
    SMALL_WORDS, WORDS, all_words, check_refused, check_refuses_no_words, plain_early,
    plain_turnings,
)

ROWS = [("a", 12), ("ab", 12), ("abc", 7), ("abcd", 6), ("abcde", 5), ("abcdef", 4), ("mz", 9)]


class WordsAndRings(unittest.TestCase):
    def test_one_ring_just_where_the_least_turnings_are_alike(self):
        found = all_words("ab", 5) + all_words("cde", 3)
        for one in found:
            for other in found:
                alike = least_form(one) == least_form(other)
                self.assertEqual(alike, other in plain_turnings(one))
                self.assertEqual(alike, steps_between(one, other) is not None)

    def test_the_steps_lead_from_the_one_to_the_other(self):
        for word in WORDS:
            for other in (least_form(word), turned(word, 7), turned(word, -1)):
                with self.subTest(word=word[:40], other=other[:40]):
                    self.assertEqual(turned(word, steps_between(word, other)), other)
            self.assertEqual(steps_between(word, least_form(word)), least_turn(word))

    def test_the_book_tells_one_ring_just_where_the_words_are(self):
        found = all_words("ab", 5) + all_words("cde", 3)
        for one in found:
            book = Rings()
            number = book.add(one)
            for other in found:
                alike = least_form(one) == least_form(other)
                self.assertEqual(book.ring_of(other), number if alike else None)


class RootsAndPieces(unittest.TestCase):
    def test_the_pieces_of_the_least_turning_are_its_root_again_and_again(self):
        for word in SMALL_WORDS + WORDS:
            with self.subTest(word=word[:40]):
                form = least_form(word)
                short, times = root(form)
                self.assertEqual(pieces(form), [short] * times)
                self.assertTrue(is_cutting(form, [short] * times))

    def test_a_turning_has_as_many_roots(self):
        for word in SMALL_WORDS + WORDS:
            with self.subTest(word=word[:40]):
                short, times = root(word)
                self.assertEqual(root(turned(word, 1)), (turned(short, 1), times))
                self.assertEqual(len(set(turnings(word))), len(short))

    def test_early_words_have_no_border_and_no_shorter_root(self):
        for word in SMALL_WORDS + WORDS:
            if is_early(word):
                with self.subTest(word=word[:40]):
                    self.assertEqual(borders(word), [])
                    self.assertEqual(beat(word), len(word))
                    self.assertEqual(root(word), (word, 1))

    def test_each_word_is_cut_into_early_words(self):
        early = early_words("ab", 8)
        for word in all_words("ab", 8):
            parts = pieces(word)
            self.assertEqual("".join(parts), word)
            self.assertEqual(len(parts), len(cuts(word)))
            for part in parts:
                self.assertIn(part, early)

    def test_two_early_words_make_an_early_word(self):
        for signs, longest in (("ab", 8), ("abc", 4), ("abcdef", 2)):
            found = early_words(signs, longest)
            for at, less in enumerate(found):
                for more in found[at + 1:]:
                    self.assertTrue(is_early(less + more))
                    self.assertEqual(pieces(more + less), [more, less])


class RowsAndCounts(unittest.TestCase):
    def test_as_many_are_counted_as_are_listed(self):
        for signs, longest in ROWS:
            found = early_words(signs, longest)
            for long in range(1, longest + 1):
                with self.subTest(signs=signs, long=long):
                    listed = [word for word in found if len(word) == long]
                    self.assertEqual(early_count(len(signs), long), len(listed))

    def test_as_many_rings_are_counted_as_a_book_has(self):
        for letters, long in (("ab", 8), ("abc", 5), ("abcd", 4)):
            with self.subTest(letters=letters, long=long):
                book = Rings()
                for word in all_words(letters, long):
                    if len(word) == long:
                        book.add(word)
                self.assertEqual(len(book.forms()), ring_count(len(letters), long))
                self.assertEqual(book.many(), len(letters) ** long)

    def test_the_listed_words_are_early_and_rise(self):
        for signs, longest in ROWS:
            found = early_words(signs, longest)
            with self.subTest(signs=signs, longest=longest):
                self.assertEqual(found, sorted(set(found)))
                self.assertTrue(all(plain_early(word) and is_early(word) for word in found))
                self.assertEqual(found[0], signs[0])
                self.assertIsNone(next_early(found[-1], signs, longest))

    def test_each_early_word_is_the_least_form_of_its_own_ring(self):
        book = Rings()
        found = early_words("abc", 7)
        for number, word in enumerate(found):
            self.assertEqual(book.add(word), number)
        self.assertEqual(book.forms(), list(enumerate(found)))


class Refusals(unittest.TestCase):
    def test_no_function_that_takes_a_word_lets_pass_what_is_none(self):
        book = Rings()
        calls = [
            (need_word, ()), (turned, (0,)), (turnings, ()), (is_early, ()),
            (pieces, ()), (cuts, ()), (is_cutting, ([],)), (least_turn, ()),
            (least_form, ()), (steps_between, ("a",)), (borders, ()), (beat, ()), (root, ()),
            (next_early, ("ab", 2)), (book.add, ()), (book.take, ()), (book.ring_of, ()),
            (book.others, ()),
        ]
        for call, after in calls:
            with self.subTest(call=call.__name__):
                check_refuses_no_words(self, call, after=after)

    def test_a_refusal_is_caught_by_its_bases(self):
        for call, things in (
            (need_word, (None,)), (early_words, ("ba", 1)), (early_count, (0, 1)),
            (early_words, ("abc", 8)), (Rings().take, ("a",)), (Rings().members, (0,)),
        ):
            for base in (errors.WordError, ValueError):
                with self.assertRaises(base):
                    call(*things)

    def test_each_refusal_with_its_class(self):
        book = Rings()
        book.add("a")
        for refusal, call, things in (
            (errors.NoWord, need_word, ("",)), (errors.NoSigns, early_words, ("ba", 1)),
            (errors.NoCount, early_words, ("ab", 13)), (errors.TooMany, early_words, ("abc", 8)),
            (errors.NoRing, book.take, ("b",)), (errors.NoRing, book.members, (1,)),
            (errors.Twice, book.add, ("a",)), (errors.NoCount, ring_count, (27, 1)),
        ):
            with self.subTest(refusal=refusal.__name__):
                check_refused(self, refusal, call, *things)


if __name__ == "__main__":
    unittest.main()
