"""What a word is, and how it is turned."""

from ringword.errors import NoWord

LONGEST_WORD = 300


def is_word(thing):
    """True where thing, of any kind, is a word."""
    if not isinstance(thing, str):
        return False
    if not 1 <= len(thing) <= LONGEST_WORD:
        return False
    return all(["a" <= sign <= "z" for sign in thing])


def need_word(thing):
    """Refuse with NoWord what is no word."""
    if not is_word(thing):
        # The thing itself is not shown: it may be of any kind and size.
        raise NoWord(f"a word is a text of 1 to {LONGEST_WORD} small letters a to z")


def turned(word, steps):
    """The word from the place steps on, and behind it what stood ahead."""
    need_word(word)
    place = steps % len(word)
    return word[place:] + word[:place]


def turnings(word):
    """The word turned by 0, 1 and so on to its last place."""
    need_word(word)
    return [word[place:] + word[:place] for place in range(len(word))]
