"""Early words, and the cutting of a word into early pieces."""

from ringword.words import is_word, need_word, turnings


def is_early(word):
    """True where the word is less than each of its turnings by 1 step and more."""
    others = turnings(word)[1:]
    return all([word < other for other in others])


def cuts(word):
    """The rising places at which the pieces of the word begin, 0 first."""
    need_word(word)
    places = [0]
    least = word
    # A piece begins just where what is left of the word is less than all that
    # was left at the places ahead. For an early word is less than its endings,
    # so nothing less begins within a piece; and as no piece is less than the
    # next one, what is left grows less from each piece to the next.
    for place in range(1, len(word)):
        rest = word[place:]
        if rest < least:
            places.append(place)
            least = rest
    return places


def pieces(word):
    """The early words, none less than the next one, that the word is made of."""
    starts = cuts(word)
    ends = starts[1:] + [len(word)]
    return [word[start:end] for start, end in zip(starts, ends)]


def is_cutting(word, rows):
    """True where rows, of any kind, is just the list of the word's pieces."""
    right = pieces(word)
    if not isinstance(rows, list):
        return False
    # Only words are compared: a thing of another kind may claim to be like all.
    if not all([is_word(row) for row in rows]):
        return False
    return rows == right
