"""What a call is."""

from midstride.errors import BadCall
from midstride.steps import is_number, is_word

CALL_PARTS = 4
MOST_HEARD = 20
MOST_STRENGTH = 120


def is_heard(thing):
    """Whether it is a list of heard numbers."""
    return isinstance(thing, list) and len(thing) <= MOST_HEARD and all(is_number(one) for one in thing)


def is_strength(thing):
    """Whether it is a strength."""
    return is_number(thing) and 0 <= thing <= MOST_STRENGTH


def is_call(thing):
    """Whether it is a call."""
    if not isinstance(thing, tuple) or len(thing) != CALL_PARTS:
        return False
    word, in_hand, heard, strength = thing
    return is_word(word) and is_number(in_hand) and is_heard(heard) and is_strength(strength)


def checked_call(call):
    """The call anew, its list of heard numbers, too; what is no call is refused."""
    if not is_call(call):
        raise BadCall("this is no call: a tuple of a word, a number, 0 to 20 heard numbers and a strength to 120")
    word, in_hand, heard, strength = call
    return (word, in_hand, list(heard), strength)
