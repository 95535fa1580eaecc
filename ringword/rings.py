"""A book of words, which tells the rings that they are."""

from ringword.errors import NoRing, Twice
from ringword.turns import least_form


class Rings:
    """Words that come in and go out, and the numbers of their rings."""

    def __init__(self):
        self._next = 0
        # The number of each ring in the book, by its least form.
        self._numbers = {}
        # The words of each ring in the book, by its number.
        self._words = {}

    def add(self, word):
        """Put the word in, and tell the number of its ring."""
        number = self.ring_of(word)
        if number is None:
            number = self._begin(least_form(word))
        elif word in self._words[number]:
            raise Twice("the word is in the book already")
        self._words[number].append(word)
        return number

    def take(self, word):
        """Take the word out, and tell the number of its ring."""
        number = self.ring_of(word)
        if number is None or word not in self._words[number]:
            raise NoRing("the word is not in the book")
        self._words[number].remove(word)
        if len(self._words[number]) == 0:
            self._end(least_form(word))
        return number

    def ring_of(self, word):
        """The number of the word's ring, None where the book has no word of it."""
        return self._numbers.get(least_form(word))

    def others(self, word):
        """All other words of the word's ring, in order of coming in."""
        number = self.ring_of(word)
        if number is None:
            return []
        return [other for other in self._words[number] if other != word]

    def members(self, number):
        """All words of the ring of that number, in order of coming in."""
        if number not in self._words:
            raise NoRing("no ring in the book has this number")
        return list(self._words[number])

    def forms(self):
        """The number and the least form of each ring, by rising numbers."""
        # They stand in the order of their beginning, and so of their numbers.
        return [(number, form) for form, number in self._numbers.items()]

    def many(self):
        """How many words are in the book."""
        return sum([len(words) for words in self._words.values()])

    def _begin(self, form):
        """Give the ring of that least form the next number, and tell it."""
        number = self._next
        self._next += 1
        self._numbers[form] = number
        self._words[number] = []
        return number

    def _end(self, form):
        """Forget the ring of that least form, which has no words left."""
        number = self._numbers.pop(form)
        del self._words[number]
