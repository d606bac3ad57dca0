"""The house: many runners, and editions that are exchanged while they are in the midst of calls."""

from midstride.calls import checked_call
from midstride.errors import BadName, Over, TooMany, Underway, Unknown
from midstride.judging import paper_of
from midstride.papers import Barred, Let
from midstride.runners import Runner
from midstride.steps import bodies_of, book_of, changed, copied, is_word, need_book, need_changes
from midstride.views import standing

MOST_RUNNERS = 12
MOST_EDITIONS = 40


def opened(book):
    """A house with the book as its edition 0."""
    need_book(book)
    return House(bodies_of(book))


class House:
    """Editions, the runners that go by them, and the changes that wait.

    It is made of the bodies of edition 0 by their words, which nobody may change from then on.
    """

    def __init__(self, bodies):
        # The bodies of each edition by their words.
        self.shelf = [bodies]
        # All that have begun, by their names, in the turn in which they began.
        self.runners = {}
        # The edition in which each began, and the one by which it goes, or went at last.
        self.began_in = {}
        self.goes_by = {}
        # What all have said, as pairs of a name and a number.
        self.spoken = []
        self.waiting = []

    def begin(self, name, call):
        """A call begins in the newest edition, under a new name."""
        if not is_word(name) or name in self.runners:
            raise BadName("this is no name, or one that somebody has or had")
        own_call = checked_call(call)
        if len(self.runners) >= MOST_RUNNERS:
            raise TooMany("as many have begun as may")
        self.runners[name] = Runner(self.shelf[-1], own_call)
        self.began_in[name] = self.newest()
        self.goes_by[name] = self.newest()

    def runner_of(self, name):
        """The runner of that name, be it over or not."""
        if not is_word(name):
            raise BadName("this is no name: a text of 1 to 8 letters a to z")
        if name not in self.runners:
            raise Unknown("there is nobody of that name")
        return self.runners[name]

    def going_on(self, name):
        """The runner under way of that name."""
        runner = self.runner_of(name)
        if runner.ended:
            raise Over("the runner is over")
        return runner

    def step(self, name):
        """The runner takes one step; told is what it says with it."""
        said = self.going_on(name).take_step()
        self.spoken.extend([(name, number) for number in said])
        self.make_those_that_wait()
        return said

    def drop(self, name):
        """The runner is over, with what it has said."""
        self.going_on(name).leave_off()
        self.make_those_that_wait()

    def need_room(self):
        """Refuse one more edition where there is no room for it."""
        if len(self.shelf) + len(self.waiting) >= MOST_EDITIONS:
            raise TooMany("with those that wait there are as many editions as may be")

    def paper_with(self, bodies):
        """The paper of all editions with these bodies behind them, and of all under way."""
        return paper_of(self.shelf + [bodies], self.views())

    def bring(self, name):
        """The runner goes by the newest edition from now on."""
        self.runners[name].go_by(self.shelf[-1])
        self.goes_by[name] = self.newest()

    def make(self, changes):
        """Make the changes for all if they are let; told is the paper."""
        bodies = changed(self.shelf[-1], changes)
        paper = self.paper_with(bodies)
        if isinstance(paper, Let):
            self.shelf.append(bodies)
            for name in self.under_way():
                self.bring(name)
        return paper

    def make_those_that_wait(self):
        """Make the changes that wait, in turn, till some aren't let."""
        while self.waiting and isinstance(self.make(self.waiting[0]), Let):
            self.waiting.pop(0)

    def change(self, changes):
        """Make the changes at once for all, or change nothing; told is the paper."""
        need_changes(changes)
        self.need_room()
        return self.make(changes)

    def barring(self, changes):
        """The names of those that would bar the changes."""
        need_changes(changes)
        paper = self.paper_with(changed(self.shelf[-1], changes))
        return [name for name, reasons in paper.reasons] if isinstance(paper, Barred) else []

    def wait(self, changes):
        """The changes wait behind those that wait already, till they are let."""
        need_changes(changes)
        self.need_room()
        self.waiting.append(copied(changes))
        self.make_those_that_wait()

    def spread(self, changes):
        """The changes make a new edition; whoever is under way goes by its own still."""
        need_changes(changes)
        self.need_room()
        self.shelf.append(changed(self.shelf[-1], changes))

    def back(self):
        """The book of the edition ahead of the newest one is once more a newest edition."""
        if self.newest() == 0:
            raise Unknown("there is one edition alone")
        self.need_room()
        self.shelf.append(self.shelf[-2])

    def move(self, name):
        """The runner goes by the newest edition if that is let; told is the paper."""
        self.going_on(name)
        paper = paper_of(self.shelf, [self.view_of(name)])
        if isinstance(paper, Let):
            self.bring(name)
        return paper

    def behind(self):
        """The names of all under way that go by an older edition than the newest one."""
        return [name for name in self.under_way() if self.goes_by[name] < self.newest()]

    def under_way(self):
        """The names of all that aren't over."""
        return [name for name in self.runners if not self.runners[name].ended]

    def names(self):
        """The names of all that have begun."""
        return list(self.runners)

    def view_of(self, name):
        """The view of a runner under way."""
        runner = self.runners[name]
        return (name, self.began_in[name], runner.told_uses(), runner.steps_left())

    def views(self):
        """The views of all under way."""
        return [self.view_of(name) for name in self.under_way()]

    def said_by(self, name):
        """What the runner has said."""
        return list(self.runner_of(name).said)

    def end_of(self, name):
        """How the runner's call has ended, empty while it is under way."""
        return self.runner_of(name).ended

    def edition_of(self, name):
        """The edition by which the runner goes, or went at last."""
        self.runner_of(name)
        return self.goes_by[name]

    def witness(self, name):
        """The least edition from the one in which it began on that has all that it used."""
        runner = self.runner_of(name)
        if not runner.ended:
            raise Underway("the runner isn't over")
        # Of one that is over no step is left, whatever its bodies still hold.
        return standing(self.shelf, (name, self.began_in[name], runner.told_uses(), []))[0]

    def newest(self):
        """The count of the newest edition."""
        return len(self.shelf) - 1

    def told_edition(self, count):
        """The book of that edition."""
        return book_of(self.shelf[count])

    def told_book(self):
        """What all have said, in turn: pairs of a name and a number."""
        return list(self.spoken)

    def waits(self):
        """How many changes wait."""
        return len(self.waiting)
