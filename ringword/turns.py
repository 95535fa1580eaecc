"""The least turning of a word, and the steps from one word to another."""

from ringword.words import need_word, turnings


def least_turn(word):
    """The least number of steps by which the word is the least of its turnings."""
    rows = turnings(word)
    return rows.index(min(rows))


def least_form(word):
    """The least of the word's turnings."""
    return min(turnings(word))


def steps_between(one, other):
    """The least number of steps that turn one into other, None where none do."""
    need_word(one)
    need_word(other)
    rows = turnings(one)
    if other not in rows:
        return None
    return rows.index(other)
