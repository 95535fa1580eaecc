"""Points 2, 3, 4 and 12: the book of rings."""

import unittest
from random import Random

from ringword.errors import NoRing, NoWord, Twice
from ringword.rings import Rings
from ringword.turns import least_form
from tests.samples import (
    LETTERS, NO_WORDS, WORDS, all_words, check_refused, check_refuses_no_words, plain_turnings,
)


class Account:
    """What a book should tell, kept as one plain list of words with their numbers."""

    def __init__(self):
        self.rows = []
        self.told = 0

    def number(self, word):
        """The number of the first word in the account that is a turning of the word."""
        turns = plain_turnings(word)
        for kept, number in self.rows:
            if kept in turns:
                return number
        return None

    def holds(self, word):
        return word in [kept for kept, _ in self.rows]

    def add(self, word):
        number = self.number(word)
        if number is None:
            number = self.told
            self.told += 1
        self.rows.append((word, number))
        return number

    def take(self, word):
        number = self.number(word)
        self.rows.remove((word, number))
        return number

    def members(self, wanted):
        return [kept for kept, number in self.rows if number == wanted]

    def forms(self):
        """The numbers that are there, each with the least turning of its first word."""
        found = []
        for number in range(self.told):
            words = self.members(number)
            if words:
                found.append((number, min(plain_turnings(words[0]))))
        return found


def book_of(*words):
    """A book into which the words were put one after the other."""
    book = Rings()
    for word in words:
        book.add(word)
    return book


def state_of(book, numbers=range(12)):
    """All that the book tells of its rings."""
    rows = []
    for number in numbers:
        try:
            rows.append((number, book.members(number)))
        except NoRing:
            pass
    return (book.many(), book.forms(), rows)


class NewBook(unittest.TestCase):
    def test_it_is_without_words(self):
        book = Rings()
        self.assertEqual(book.many(), 0)
        self.assertEqual(book.forms(), [])
        self.assertIsNone(book.ring_of("abc"))
        self.assertEqual(book.others("abc"), [])
        check_refused(self, NoRing, book.members, 0)
        check_refused(self, NoRing, book.take, "abc")

    def test_two_books_go_each_by_itself(self):
        one = Rings()
        other = Rings()
        one.add("abc")
        one.add("xyz")
        self.assertEqual(state_of(other), (0, [], []))
        self.assertEqual(other.add("zxy"), 0)
        self.assertEqual(other.add("abc"), 1)
        one.take("abc")
        self.assertEqual(other.forms(), [(0, "xyz"), (1, "abc")])
        self.assertEqual(other.members(0), ["zxy"])
        self.assertEqual(other.members(1), ["abc"])
        self.assertEqual(state_of(one), (1, [(1, "xyz")], [(1, ["xyz"])]))


class Add(unittest.TestCase):
    def test_numbers_from_0_on(self):
        book = Rings()
        told = [book.add(word) for word in ("abc", "b", "bca", "aab", "cab", "baa", "acb")]
        self.assertEqual(told, [0, 1, 0, 2, 0, 2, 3])
        self.assertEqual(book.many(), 7)

    def test_words_of_unlike_length_are_no_ring(self):
        book = Rings()
        told = [book.add(word) for word in ("a", "aa", "aaa", "ab", "abab")]
        self.assertEqual(told, [0, 1, 2, 3, 4])

    def test_a_ring_that_lost_its_words_gets_the_next_number(self):
        book = book_of("abc", "xyz")
        book.take("abc")
        self.assertEqual(book.add("abc"), 2)
        self.assertEqual(book.add("bca"), 2)
        book.take("abc")
        self.assertEqual(book.add("cab"), 2)
        book.take("bca")
        book.take("cab")
        self.assertEqual(book.add("q"), 3)
        self.assertEqual(book.add("cab"), 4)
        self.assertEqual(book.forms(), [(1, "xyz"), (3, "q"), (4, "abc")])

    def test_an_emptied_book_goes_on_with_its_numbers(self):
        book = book_of("abc")
        book.take("abc")
        self.assertEqual(book.add("abc"), 1)
        book.take("abc")
        self.assertEqual(book.add("z"), 2)

    def test_twice(self):
        book = book_of("abc", "bca", "z")
        for word in ("abc", "bca", "z"):
            before = state_of(book)
            check_refused(self, Twice, book.add, word)
            self.assertEqual(state_of(book), before)
        self.assertEqual(book.add("cab"), 0)
        self.assertEqual(book.add("y"), 2)

    def test_twice_not_after_it_was_taken_out(self):
        book = book_of("abc", "bca")
        book.take("abc")
        self.assertEqual(book.add("abc"), 0)
        check_refused(self, Twice, book.add, "abc")

    def test_words_of_300_letters(self):
        book = Rings()
        self.assertEqual(book.add("a" * 300), 0)
        self.assertEqual(book.add("a" * 299 + "b"), 1)
        self.assertEqual(book.add("b" + "a" * 299), 1)
        self.assertEqual(book.add("a" * 150 + "b" + "a" * 149), 1)
        check_refused(self, Twice, book.add, "a" * 300)
        self.assertEqual(book.forms(), [(0, "a" * 300), (1, "a" * 299 + "b")])

    def test_all_turnings_of_one_word(self):
        book = Rings()
        for word in plain_turnings(LETTERS):
            self.assertEqual(book.add(word), 0)
        self.assertEqual(book.members(0), plain_turnings(LETTERS))
        self.assertEqual(book.many(), 26)


class Take(unittest.TestCase):
    def test_it_tells_the_number_of_the_ring(self):
        book = book_of("abc", "xyz", "cab")
        self.assertEqual(book.take("xyz"), 1)
        self.assertEqual(book.take("abc"), 0)
        self.assertEqual(book.take("cab"), 0)
        self.assertEqual(state_of(book), (0, [], []))

    def test_only_that_word_goes(self):
        book = book_of("abc", "bca", "cab")
        self.assertEqual(book.take("bca"), 0)
        self.assertEqual(book.members(0), ["abc", "cab"])
        self.assertEqual(book.many(), 2)
        self.assertEqual(book.ring_of("bca"), 0)

    def test_a_word_that_is_not_in(self):
        book = book_of("abc", "aab")
        for word in ("bca", "cab", "z", "a", "abcabc", "acb", "aba"):
            before = state_of(book)
            with self.subTest(word=word):
                check_refused(self, NoRing, book.take, word)
                self.assertEqual(state_of(book), before)
        self.assertEqual(book.add("z"), 2)

    def test_a_word_that_was_taken_out(self):
        book = book_of("abc", "bca")
        book.take("abc")
        check_refused(self, NoRing, book.take, "abc")
        book.take("bca")
        check_refused(self, NoRing, book.take, "bca")


class RingOf(unittest.TestCase):
    def test_words_that_are_in_and_that_are_not(self):
        book = book_of("xyz", "abc", "cab")
        for word, number in (
            ("xyz", 0), ("yzx", 0), ("zxy", 0), ("abc", 1), ("cab", 1), ("bca", 1),
            ("acb", None), ("ab", None), ("abcabc", None), ("z", None), ("xzy", None),
        ):
            with self.subTest(word=word):
                self.assertEqual(book.ring_of(word), number)
        self.assertEqual(book.many(), 3)

    def test_after_the_last_word_went(self):
        book = book_of("abc", "bca")
        book.take("abc")
        self.assertEqual(book.ring_of("abc"), 0)
        book.take("bca")
        self.assertIsNone(book.ring_of("abc"))
        self.assertIsNone(book.ring_of("bca"))


class Others(unittest.TestCase):
    def test_of_words_that_are_in(self):
        book = book_of("cab", "xyz", "abc", "bca")
        self.assertEqual(book.others("cab"), ["abc", "bca"])
        self.assertEqual(book.others("abc"), ["cab", "bca"])
        self.assertEqual(book.others("bca"), ["cab", "abc"])
        self.assertEqual(book.others("xyz"), [])

    def test_of_words_that_are_not_in(self):
        book = book_of("cab", "xyz", "abc")
        self.assertEqual(book.others("bca"), ["cab", "abc"])
        self.assertEqual(book.others("yzx"), ["xyz"])
        self.assertEqual(book.others("acb"), [])
        self.assertEqual(book.others("q"), [])
        self.assertEqual(book.many(), 3)
        self.assertIsNone(book.ring_of("q"))

    def test_taken_out_and_put_in_again_is_come_in_anew(self):
        book = book_of("abc", "bca", "cab")
        book.take("abc")
        book.add("abc")
        self.assertEqual(book.members(0), ["bca", "cab", "abc"])
        self.assertEqual(book.others("cab"), ["bca", "abc"])

    def test_a_told_list_is_the_askers_own(self):
        book = book_of("abc", "bca", "cab")
        before = state_of(book)
        told = book.others("abc")
        told.append("zzz")
        told[0] = "changed"
        book.others("q").append("q")
        self.assertEqual(state_of(book), before)
        self.assertEqual(book.others("abc"), ["bca", "cab"])
        self.assertEqual(book.others("q"), [])

    def test_a_told_list_stays_as_it_is(self):
        book = book_of("abc", "bca", "cab")
        told = book.others("abc")
        absent = book.others("xyz")
        book.take("bca")
        book.add("xyz")
        self.assertEqual(told, ["bca", "cab"])
        self.assertEqual(absent, [])


class Members(unittest.TestCase):
    def test_in_order_of_coming_in(self):
        book = book_of("cab", "xyz", "abc", "zxy", "bca")
        self.assertEqual(book.members(0), ["cab", "abc", "bca"])
        self.assertEqual(book.members(1), ["xyz", "zxy"])

    def test_numbers_that_no_ring_has(self):
        book = book_of("abc", "bca", "xyz")
        for number in (-1, -2, 2, 3, 300, 10 ** 199, -(10 ** 199)):
            with self.subTest(number=number):
                check_refused(self, NoRing, book.members, number)

    def test_numbers_that_rings_had_ahead(self):
        book = book_of("abc", "xyz")
        book.take("abc")
        check_refused(self, NoRing, book.members, 0)
        book.add("abc")
        check_refused(self, NoRing, book.members, 0)
        self.assertEqual(book.members(2), ["abc"])

    def test_a_told_list_is_the_askers_own(self):
        book = book_of("abc", "bca")
        before = state_of(book)
        told = book.members(0)
        told.clear()
        self.assertEqual(state_of(book), before)

    def test_a_told_list_stays_as_it_is(self):
        book = book_of("abc", "bca")
        told = book.members(0)
        book.add("cab")
        book.take("abc")
        self.assertEqual(told, ["abc", "bca"])


class Forms(unittest.TestCase):
    def test_by_rising_numbers(self):
        book = book_of("zyx", "ba", "q", "yxz", "baba", "cba")
        told = book.forms()
        self.assertEqual(told, [(0, "xzy"), (1, "ab"), (2, "q"), (3, "abab"), (4, "acb")])
        self.assertIs(type(told), list)
        for pair in told:
            self.assertIs(type(pair), tuple)

    def test_rings_without_words_are_left_out(self):
        book = book_of("zyx", "ba", "q")
        book.take("zyx")
        book.add("ab")
        book.take("ba")
        self.assertEqual(book.forms(), [(1, "ab"), (2, "q")])
        book.add("xzy")
        self.assertEqual(book.forms(), [(1, "ab"), (2, "q"), (3, "xzy")])
        book.take("ab")
        self.assertEqual(book.forms(), [(2, "q"), (3, "xzy")])

    def test_a_told_list_is_the_askers_own(self):
        book = book_of("abc", "ab")
        told = book.forms()
        told.reverse()
        told.append((9, "z"))
        self.assertEqual(book.forms(), [(0, "abc"), (1, "ab")])

    def test_a_told_list_stays_as_it_is(self):
        book = book_of("abc")
        told = book.forms()
        book.add("ab")
        book.take("abc")
        self.assertEqual(told, [(0, "abc")])


class Refusals(unittest.TestCase):
    def test_no_words_change_nothing(self):
        book = book_of("abc", "bca", "a", "ab")
        before = state_of(book)
        for call in (book.add, book.take, book.ring_of, book.others):
            with self.subTest(call=call.__name__):
                check_refuses_no_words(self, call)
                self.assertEqual(state_of(book), before)
        self.assertEqual(book.add("z"), 3)

    def test_no_words_in_a_book_without_words(self):
        for thing in NO_WORDS:
            book = Rings()
            for call in (book.add, book.take, book.ring_of, book.others):
                check_refused(self, NoWord, call, thing)
            self.assertEqual(state_of(book), (0, [], []))


class ManyDeeds(unittest.TestCase):
    def check_book(self, book, account, words):
        """The book tells of each word and each number what the account tells."""
        self.assertEqual(book.many(), len(account.rows))
        self.assertEqual(book.forms(), account.forms())
        for word in words:
            number = account.number(word)
            self.assertEqual(book.ring_of(word), number)
            others = [] if number is None else account.members(number)
            self.assertEqual(book.others(word), [other for other in others if other != word])
        for number in range(-1, account.told + 1):
            members = account.members(number)
            if members:
                self.assertEqual(book.members(number), members)
            else:
                check_refused(self, NoRing, book.members, number)

    def do(self, book, account, word, put):
        """Put the word in or take it out, where that can be, in both alike."""
        if put and account.holds(word):
            check_refused(self, Twice, book.add, word)
        elif put:
            self.assertEqual(book.add(word), account.add(word))
        elif account.holds(word):
            self.assertEqual(book.take(word), account.take(word))
        else:
            check_refused(self, NoRing, book.take, word)

    def check_deeds(self, words, seed, deeds, chance):
        chances = Random(seed)
        book = Rings()
        account = Account()
        for deed in range(deeds):
            word = chances.choice(words)
            self.do(book, account, word, chances.random() < chance)
            if deed % 10 == 0:
                self.check_book(book, account, words)
        self.check_book(book, account, words)

    def test_few_words(self):
        for seed in range(6):
            self.check_deeds(["a", "ab", "ba", "abc", "bca", "cab"], seed, 300, 0.5)

    def test_more_words(self):
        for seed in range(4):
            self.check_deeds(all_words("ab", 4), seed, 400, 0.6)

    def test_words_that_mostly_go(self):
        for seed in range(4):
            self.check_deeds(plain_turnings("abcab") + ["z"], seed, 300, 0.4)

    def test_long_words(self):
        words = [word for long in WORDS[-4:] for word in plain_turnings(long)[::97]]
        self.check_deeds(sorted(set(words)), 1, 100, 0.6)


class ManyRings(unittest.TestCase):
    def test_all_small_words(self):
        words = all_words("abc", 6)
        book = book_of(*words)
        self.assertEqual(book.many(), len(words))
        told = book.forms()
        self.assertEqual([number for number, _ in told], list(range(len(told))))
        for number, form in told:
            members = book.members(number)
            self.assertEqual(sorted(members), sorted(set(plain_turnings(form))))
            self.assertEqual(least_form(members[0]), form)
        self.assertEqual(sum(len(book.members(number)) for number, _ in told), len(words))


if __name__ == "__main__":
    unittest.main()
