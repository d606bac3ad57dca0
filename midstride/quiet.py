"""Whether what is unlike in two books may be come upon from a word."""

from midstride.reach import is_row, row_to_unlike, words_ahead
from midstride.steps import bodies_of, need_book, need_word, unlike


class Quiet:
    """What is told of two books and a word: a Hidden or a Shown."""


class Hidden(Quiet):
    """The word and all that may be used from it by the first book are alike in both."""

    def shows(self, one, other, word):
        """Whether it is so."""
        return row_from(one, other, word) == []


class Shown(Quiet):
    """The words are a row, by the first book, from the word to one that is unlike in both."""

    def __init__(self, words):
        self.words = list(words)

    def shows(self, one, other, word):
        """Whether they are, as they stand now."""
        bodies = bodies_of(one)
        return is_row(self.words, asking(word), bodies) and unlike(bodies, bodies_of(other), self.words[-1])


def asking(word):
    """Steps from which each row begins with the word."""
    return [("ask", word)]


def row_from(one, other, word):
    """A row, by the first book, from the word to one that is unlike in both, empty if there is none."""
    bodies = bodies_of(one)
    return row_to_unlike(words_ahead(asking(word), bodies), bodies, bodies_of(other))


def seen(one, other, word):
    """A Hidden, or a Shown with a row."""
    need_book(one)
    need_book(other)
    need_word(word)
    row = row_from(one, other, word)
    return Shown(row) if row else Hidden()
