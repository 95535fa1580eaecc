"""Borders, beat and root of a word: how it is like itself further on."""

from ringword.words import need_word


def borders(word):
    """The rising lengths of the shorter beginnings that are its endings too."""
    need_word(word)
    return [long for long in range(1, len(word)) if word.endswith(word[:long])]


def beat(word):
    """The least number of places from 1 on at which each letter comes again."""
    lengths = borders(word)
    # That each letter comes again p places on says that all letters but p are a
    # border. So the longest border tells the least p; where there is none, no
    # letter may have one behind it.
    longest = max(lengths, default=0)
    return len(word) - longest


def root(word):
    """The shortest word that makes the word again and again, and how often."""
    long = beat(word)
    # Where a shorter word again and again is the word, its length is a number of
    # places as beat means them, and at most half the word's. Of two such numbers
    # that are together at most the word's length, the greatest common divisor is
    # one too. So the beat, the least of all, divides that length and the word's.
    if len(word) % long > 0:
        return (word, 1)
    return (word[:long], len(word) // long)
