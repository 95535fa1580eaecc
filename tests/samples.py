"""Words and other things that the tests share, and plain ways to look things up."""

from itertools import product

from ringword.errors import NoWord

LETTERS = "abcdefghijklmnopqrstuvwxyz"

LONG_WORDS = [
    "a" * 300,
    "z" * 300,
    "ab" * 150,
    "ba" * 150,
    "abc" * 100,
    "a" * 299 + "b",
    "b" + "a" * 299,
    "b" * 299 + "a",
    "".join(sorted((LETTERS * 12)[:300])),
    "".join(sorted((LETTERS * 12)[:300], reverse=True)),
    (LETTERS * 12)[:300],
    "aab" * 99 + "aaa",
    "".join(LETTERS[k * k * k // 7 + k * k] for k in range(1, 5)) * 75,
    "".join(LETTERS[(k * k + k // 3) % 26] for k in range(300)),
]

WORDS = [
    "a", "b", "z", "aa", "zz", "aaaa", "ab", "ba", "aab", "aba", "baa", "abab",
    "baba", "abaab", "abcabc", "bcabca", "aabaab", "banana", "mississippi",
    "ringword", "zyxw", "wxyz", LETTERS, LETTERS[::-1], "a" * 12 + "b",
] + LONG_WORDS


class Odd:
    """A thing that claims to be like everything."""

    def __eq__(self, other):
        return True

    __hash__ = None

    def __len__(self):
        return 1


NO_WORDS = [
    "", "a" * 301, "ab" * 1000, "A", "aB", "Ab", "ABC", "1", "a1", "12", " ",
    "a b", " a", "a ", "\n", "a\n", "\na", "a\nb", "a-b", "a.", "`", "{", "@",
    "[", "~", "a~", None, True, False, 0, 1, -1, 300, 10 ** 199, b"", b"ab",
    [], ["a"], ["a", "b"], (), ("a",), ("a", "b"), {}, {"a": 1}, {"a"}, set(),
    object(), Odd(), str, len, range(3),
]


def all_words(letters, longest):
    """Every word of the letters, from 1 to longest letters long."""
    return [
        "".join(row)
        for long in range(1, longest + 1)
        for row in product(letters, repeat=long)
    ]


def plain_turnings(word):
    """The turnings, made by moving one letter after the other to the end."""
    rows = []
    for _ in word:
        rows.append(word)
        word = word[1:] + word[0]
    return rows


def plain_early(word):
    """What point 1 says of an early word, letter by letter."""
    return all(word < row for row in plain_turnings(word)[1:])


SMALL_WORDS = all_words("ab", 8) + all_words("xyz", 5)


def check_refused(case, call, *things):
    """call(*things) is refused with NoWord, and with no class under it."""
    with case.assertRaises(NoWord) as caught:
        call(*things)
    case.assertIs(type(caught.exception), NoWord)


def check_refuses_no_words(case, call, before=(), after=()):
    """The call refuses all that is no word at the place between before and after."""
    for thing in NO_WORDS:
        with case.subTest(thing=repr(thing)[:40]):
            check_refused(case, call, *before, thing, *after)
