"""Steps, bodies and books, and the changes that make one book out of another."""

from midstride.errors import BadBody, BadBook, BadChanges, BadWord

LONGEST_WORD = 8
MOST_STEPS = 9
LARGEST_PART = 99

BARE_STEPS = ("say", "hear", "end")
NUMBER_STEPS = ("plus", "times", "turn")
WORD_STEPS = ("ask", "odd")


def is_number(thing):
    """Whether it is a whole number."""
    # Python counts True and False among its integers; the document doesn't.
    return isinstance(thing, int) and not isinstance(thing, bool)


def is_word(thing):
    """Whether it is a word; a name is the same."""
    if not isinstance(thing, str) or not 1 <= len(thing) <= LONGEST_WORD:
        return False
    # Not islower: that takes letters of other alphabets, too.
    return all("a" <= sign <= "z" for sign in thing)


def is_step(thing):
    """Whether it is a step."""
    if not isinstance(thing, tuple) or len(thing) not in (1, 2) or not isinstance(thing[0], str):
        return False
    if len(thing) == 1:
        return thing[0] in BARE_STEPS
    name, part = thing
    if name in NUMBER_STEPS:
        return is_number(part) and -LARGEST_PART <= part <= LARGEST_PART
    return name in WORD_STEPS and is_word(part)


def is_steps(thing):
    """Whether it is a list of steps, any many."""
    return isinstance(thing, list) and all(is_step(step) for step in thing)


def is_body(thing):
    """Whether it is a body."""
    return is_steps(thing) and len(thing) <= MOST_STEPS


def is_book(thing):
    """Whether it is a book."""
    if not isinstance(thing, list) or not all(has_body(pair) for pair in thing):
        return False
    words = [word for word, body in thing]
    return words == sorted(set(words))


def is_changes(thing):
    """Whether it is a list of changes."""
    if not isinstance(thing, list) or not all(has_body_or_none(pair) for pair in thing):
        return False
    return len({word for word, body in thing}) == len(thing)


def has_word(thing):
    """Whether it is a pair that begins with a word."""
    return isinstance(thing, tuple) and len(thing) == 2 and is_word(thing[0])


def has_body(thing):
    """Whether it is a pair of a word and a body."""
    return has_word(thing) and is_body(thing[1])


def has_body_or_none(thing):
    """Whether it is a pair of a word and a body or None."""
    return has_word(thing) and (thing[1] is None or is_body(thing[1]))


# The refusals below don't show what was refused: it may be of any kind, and
# some numbers and lists are too large or too deep for Python to write out.


def need_body(body):
    """Refuse what is no body."""
    if not is_body(body):
        raise BadBody("this is no body: a list of 0 to 9 steps")


def need_book(book):
    """Refuse what is no book."""
    if not is_book(book):
        raise BadBook("this is no book: a list of pairs of a word and a body, the words rising")


def need_word(word):
    """Refuse what is no word."""
    if not is_word(word):
        raise BadWord("this is no word: a text of 1 to 8 letters a to z")


def need_changes(changes):
    """Refuse what are no changes."""
    if not is_changes(changes):
        raise BadChanges("these are no changes: a list of pairs of a word and a body or None, each word once")


def bodies_of(book):
    """The bodies of the book by their words, each list anew."""
    return {word: list(body) for word, body in book}


def book_of(bodies):
    """The book of the bodies by their words, each list anew."""
    return [(word, list(bodies[word])) for word in sorted(bodies)]


def copied(pairs):
    """The pairs of a word and a body or None, each list anew."""
    return [(word, None if body is None else list(body)) for word, body in pairs]


def changed(bodies, changes):
    """The bodies by their words behind the changes; those that aren't changed are the same lists as ahead."""
    after = dict(bodies)
    for word, body in copied(changes):
        if body is not None:
            after[word] = body
        elif word in after:
            del after[word]
    return after


def unlike(bodies, others, word):
    """Whether the word has unlike bodies, or one and none, in both."""
    return bodies.get(word) != others.get(word)


def told(book, word):
    """The body of the word in the book, or None if it has none."""
    need_book(book)
    need_word(word)
    for other, body in book:
        if other == word:
            return list(body)
    return None


def exchanged(book, changes):
    """The book behind the changes."""
    need_book(book)
    need_changes(changes)
    return book_of(changed(bodies_of(book), changes))
