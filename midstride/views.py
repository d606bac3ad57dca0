"""Views, which editions stand for one, and why the others don't.

Editions are handed on here as a shelf: a list of the bodies of each one by their words.
"""

from midstride.reach import is_row, row_to_unlike, words_ahead
from midstride.steps import bodies_of, is_changes, is_number, is_steps, is_word, unlike

VIEW_PARTS = 4


def is_view(thing, many):
    """Whether it is a view of that many editions."""
    if not isinstance(thing, tuple) or len(thing) != VIEW_PARTS:
        return False
    name, first, uses, left = thing
    if not is_word(name) or not is_number(first) or not 0 <= first < many:
        return False
    # What was used has the form of changes: words, each once, with a body or None.
    return is_changes(uses) and is_steps(left)


def shelf_of(editions):
    """The shelf of the editions."""
    return [bodies_of(book) for book in editions]


def reasons_against(shelf, view):
    """For each edition from the view's first one on, in turn, a reason why it doesn't stand, or None if it does."""
    name, first, uses, left = view
    ahead = words_ahead(left, shelf[-1])
    return [reason_against(bodies, shelf[-1], uses, ahead) for bodies in shelf[first:]]


def reason_against(bodies, last, uses, ahead):
    """A reason why these bodies don't stand for what was used and for what may be used yet, or None."""
    for word, body in uses:
        if bodies.get(word) != body:
            return ("used", word)
    row = row_to_unlike(ahead, bodies, last)
    return ("may", row) if row else None


def standing(shelf, view):
    """The editions that stand for the view, rising."""
    first = view[1]
    return [first + at for at, reason in enumerate(reasons_against(shelf, view)) if reason is None]


def is_reason(reason, bodies, last, view):
    """Whether the reason tells rightly why these bodies don't stand for the view."""
    name, first, uses, left = view
    sort, told = reason
    if sort == "used":
        return any(word == told and bodies.get(word) != body for word, body in uses)
    return sort == "may" and is_row(told, left, last) and unlike(bodies, last, told[-1])
