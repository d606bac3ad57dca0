"""Plain runs: calls gone through in one book."""

from midstride.calls import checked_call
from midstride.runners import Runner
from midstride.steps import bodies_of, need_book


def plain_run(book, call):
    """The runner of the call, at its end."""
    need_book(book)
    runner = Runner(bodies_of(book), checked_call(call))
    while not runner.ended:
        runner.take_step()
    return runner


def run(book, call):
    """What the call says, in turn, and how it ends."""
    runner = plain_run(book, call)
    return (list(runner.said), runner.ended)


def used(book, call):
    """What the call uses: pairs of a word and its body, or None, in the turn of their first use."""
    return plain_run(book, call).told_uses()


def steps_of(book, call):
    """How many steps the call takes, one that ends it counted, too."""
    return plain_run(book, call).taken
