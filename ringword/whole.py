"""Whole numbers: what a count is, and powers."""

from ringword.errors import NoCount


def need_count(thing, most):
    """Refuse with NoCount what, of any kind, is no number from 1 to most."""
    # A truth is an int to Python, but no number here.
    if isinstance(thing, bool) or not isinstance(thing, int) or not 1 <= thing <= most:
        # The thing itself is not shown: it may be of any kind and size.
        raise NoCount(f"a number from 1 to {most} is wanted")


def power(base, times):
    """The base taken so many times by itself."""
    result = 1
    for _ in range(times):
        result *= base
    return result
