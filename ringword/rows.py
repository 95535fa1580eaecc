"""The early words of some letters up to a length, in the order of texts."""

from ringword.errors import NoSigns, NoWord, TooMany
from ringword.pieces import is_early
from ringword.whole import need_count, power
from ringword.words import is_word, need_word

MOST_SIGNS = 6
MOST_LONG = 12
MOST_WORDS = 4096


def early_words(signs, longest):
    """The list of all early words of at most longest letters, each one of signs."""
    _need_signs(signs)
    need_count(longest, MOST_LONG)
    if power(len(signs), longest) > MOST_WORDS:
        raise TooMany(f"there are more than {MOST_WORDS} words of these letters")
    found = []
    word = signs[0]
    while word is not None:
        found.append(word)
        word = _following(word, signs, longest)
    return found


def next_early(word, signs, longest):
    """The early word that comes behind the given one, None behind the last one."""
    need_word(word)
    _need_signs(signs)
    need_count(longest, MOST_LONG)
    if not _is_among(word, signs, longest):
        raise NoWord("the word is no early word of these letters and this length")
    return _following(word, signs, longest)


def _need_signs(thing):
    """Refuse with NoSigns what, of any kind, are no signs."""
    if not _are_signs(thing):
        raise NoSigns(f"signs are 1 to {MOST_SIGNS} unlike rising small letters")


def _are_signs(thing):
    """True where thing, of any kind, is a word of few unlike rising letters."""
    if not is_word(thing) or len(thing) > MOST_SIGNS:
        return False
    return all([one < other for one, other in zip(thing, thing[1:])])


def _is_among(word, signs, longest):
    """True where the word is one of the early words that are meant."""
    if len(word) > longest or not is_early(word):
        return False
    return all([letter in signs for letter in word])


def _following(word, signs, longest):
    """The early word that comes behind an early word of these, or None."""
    # No early word stands between the word and the word again and again, up to
    # the longest length. The text that comes behind that one has its last letter
    # that can still rise put up by one, and nothing behind it; and it is early.
    filled = (word * longest)[:longest]
    stem = filled.rstrip(signs[-1])
    if stem == "":
        return None
    place = signs.index(stem[-1])
    return stem[:-1] + signs[place + 1]
