"""Words and other things that the tests share, and plain ways to look things up."""

from itertools import product

from ringword.errors import NoWord, WordError

LETTERS = "abcdefghijklmnopqrstuvwxyz"

LONG_WORDS = [
    "a" * 300,
    "z" * 300,
    "ab" * 150,
    "ba" * 150,
    "abc" * 100,
    "a" * 299 + "b",
    "b" + "a" * 299,
    "b" * 299 + "a",
    "".join(sorted((LETTERS * 12)[:300])),
    "".join(sorted((LETTERS * 12)[:300], reverse=True)),
    (LETTERS * 12)[:300],
    "aab" * 99 + "aaa",
    "".join(LETTERS[k * k * k // 7 + k * k] for k in range(1, 5)) * 75,
    "".join(LETTERS[(k * k + k // 3) % 26] for k in range(300)),
]

WORDS = [
    "a", "b", "z", "aa", "zz", "aaaa", "ab", "ba", "aab", "aba", "baa", "abab",
    "baba", "abaab", "abcabc", "bcabca", "aabaab", "banana", "mississippi",
    "ringword", "zyxw", "wxyz", LETTERS, LETTERS[::-1], "a" * 12 + "b",
] + LONG_WORDS


class Odd:
    """A thing that claims to be like everything."""

    def __eq__(self, other):
        return True

    __hash__ = None

    def __len__(self):
        return 1


NO_WORDS = [
    "", "a" * 301, "ab" * 1000, "A", "aB", "Ab", "ABC", "1", "a1", "12", " ",
    "a b", " a", "a ", "\n", "a\n", "\na", "a\nb", "a-b", "a.", "`", "{", "@",
    "[", "~", "a~", None, True, False, 0, 1, -1, 300, 10 ** 199, b"", b"ab",
    [], ["a"], ["a", "b"], (), ("a",), ("a", "b"), {}, {"a": 1}, {"a"}, set(),
    object(), Odd(), str, len, range(3),
]


def all_words(letters, longest):
    """Every word of the letters, from 1 to longest letters long."""
    return [
        "".join(row)
        for long in range(1, longest + 1)
        for row in product(letters, repeat=long)
    ]


def plain_turnings(word):
    """The turnings, made by moving one letter after the other to the end."""
    rows = []
    for _ in word:
        rows.append(word)
        word = word[1:] + word[0]
    return rows


def plain_early(word):
    """What point 1 says of an early word, letter by letter."""
    return all(word < row for row in plain_turnings(word)[1:])


SMALL_WORDS = all_words("ab", 8) + all_words("xyz", 5)


def early_by_looking(signs, longest):
    """The early words of at most longest letters, found among all words of the signs."""
    return sorted(word for word in all_words(signs, longest) if plain_early(word))


NO_SIGNS = NO_WORDS + [
    "ba", "cab", "aa", "abb", "aab", "abca", "abdc", "zyx", "acb", "abcdefg", "tuvwxyz",
    LETTERS, "abcdefa", "aaaaaa", "AB", "abC", "a b", ["a", "b"], ("a", "b", "c"), {"a": 1, "b": 2},
    {"a", "b"}, "banana", "ab" * 150,
]


def no_counts(most):
    """Things that are no number from 1 to most."""
    return [
        0, most + 1, most + 2, -1, -most, 10 ** 199, -(10 ** 199), 300 * most, True, False,
        None, "", "1", "a", "12", b"", b"1", [], [1], (), (1,), {}, {1: 1}, {1}, set(),
        object(), Odd(), int, len, range(3),
    ]


def check_refused(case, refusal, call, *things):
    """call(*things) is refused with just that class of ringword/errors.py."""
    with case.assertRaises(WordError) as caught:
        call(*things)
    case.assertIs(type(caught.exception), refusal)


def check_refuses_each(case, refusal, wrong, call, before=(), after=()):
    """The call refuses each wrong thing at the place between before and after."""
    for thing in wrong:
        with case.subTest(thing=repr(thing)[:40], before=before, after=after):
            check_refused(case, refusal, call, *before, thing, *after)


def check_refuses_no_words(case, call, before=(), after=()):
    """The call refuses all that is no word at the place between before and after."""
    check_refuses_each(case, NoWord, NO_WORDS, call, before, after)
