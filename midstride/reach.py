"""What steps may use by a book, and the rows of words that lead to it."""

from midstride.steps import WORD_STEPS, bodies_of, need_body, need_book, need_word, unlike


def named(steps):
    """The words that the steps name, in turn."""
    return [step[1] for step in steps if step[0] in WORD_STEPS]


def words_ahead(steps, bodies):
    """For each word that the steps may use the one ahead of it in a shortest row, or None for a first one.

    The steps may be any many here, not only those of a body.
    """
    ahead = {word: None for word in named(steps)}
    # Gone through in the turn in which they were found, so that nearer words come first: this makes rows shortest.
    found = list(ahead)
    at = 0
    while at < len(found):
        nearer = found[at]
        for word in named(bodies.get(nearer, [])):
            if word not in ahead:
                ahead[word] = nearer
                found.append(word)
        at += 1
    return ahead


def row_to(word, ahead):
    """The row of words that leads to the word, which stands in `ahead`."""
    row = []
    while word is not None:
        row.append(word)
        word = ahead[word]
    return row[::-1]


def row_to_unlike(ahead, bodies, others):
    """The row to a word that stands in `ahead` and is unlike in both, empty if there is none."""
    for word in ahead:
        if unlike(bodies, others, word):
            return row_to(word, ahead)
    return []


def is_row(words, steps, bodies):
    """Whether it is a row of words from the steps, one word at least, be it a shortest one or not."""
    for word in words:
        if word not in named(steps):
            return False
        steps = bodies.get(word, [])
    return len(words) > 0


def may_use(steps, book):
    """The words that the steps may use by the book, rising."""
    need_body(steps)
    need_book(book)
    return sorted(words_ahead(steps, bodies_of(book)))


def chain(steps, book, word):
    """A shortest row of words to the word, empty if the steps may not use it by the book."""
    need_body(steps)
    need_book(book)
    need_word(word)
    ahead = words_ahead(steps, bodies_of(book))
    return row_to(word, ahead) if word in ahead else []
