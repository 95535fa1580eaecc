"""The refusals of ringword."""


class WordError(ValueError):
    """Any refusal of ringword."""


class NoWord(WordError):
    """What was handed in as a word is none."""


class NoSigns(WordError):
    """What was handed in as signs is no word of few unlike rising letters."""


class NoCount(WordError):
    """What was handed in as a number is none, or out of its bounds."""


class TooMany(WordError):
    """There are too many words to make them all."""


class NoRing(WordError):
    """The book has no such word or no such ring."""


class Twice(WordError):
    """The word is in the book already."""
