"""How many early words and rings there are, without making them."""

from ringword.whole import need_count, power

MOST_LETTERS = 26
MOST_LONG = 60


def early_count(many, long):
    """How many early words of just long letters there are of many letters."""
    return _early_counts(many, long)[long]


def ring_count(many, long):
    """How many rings of just long letters there are of many letters."""
    # The least turning of a ring is one early word again and again, and each
    # early word whose length divides long gives one such ring.
    return sum(_early_counts(many, long).values())


def _early_counts(many, long):
    """How many early words there are of each length that divides long."""
    need_count(many, MOST_LETTERS)
    need_count(long, MOST_LONG)
    found = {}
    for size in range(1, long + 1):
        if long % size == 0:
            # Each word is its root again and again, and the root is one of the
            # turnings, all unlike, of just one early word.
            shorter = sum([part * found[part] for part in found if size % part == 0])
            found[size] = (power(many, size) - shorter) // size
    return found
