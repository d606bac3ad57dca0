"""Many drawn turns of deeds: a house against a second one, which is reckoned another way, and against plain runs."""

import copy
import random
import unittest

from midstride.house import opened
from midstride.papers import Let
from midstride.plain import run
from midstride.steps import exchanged
from tests.samples import PaperReading, alike, drawn_book, drawn_call, drawn_changes, drawn_step, standing

LETTERS = "abcdefg"


def lively_body(chance, word):
    """A body drawn by chance that mostly asks words behind its own, so that calls go deep and come to an end."""
    body = []
    for _ in range(chance.randrange(1, 7)):
        further = LETTERS[LETTERS.index(word) + 1:] if chance.randrange(20) else LETTERS
        step = drawn_step(chance)
        if step[0] in ("ask", "odd"):
            step = (step[0], chance.choice(further)) if further else ("say",)
        body.append(step)
    return body


def lively_book(chance):
    """A book drawn by chance whose calls run for a while."""
    return [(word, lively_body(chance, word)) for word in LETTERS]


def lively_call(chance):
    """A call drawn by chance that runs for a while in such a book."""
    return (chance.choice("aaabbc"), chance.randint(-9, 9), [chance.randint(-5, 5) for _ in range(20)], 120)


def lively_changes(chance):
    """Changes drawn by chance of such a book; the words of some are taken away."""
    return [(word, lively_body(chance, word) if chance.randrange(6) else None)
            for word in chance.sample(LETTERS, chance.choice([0, 1, 1, 2, 2, 3]))]


class Walker:
    """A call gone through over one flat row of the steps that are left, each with the count of its body."""

    def __init__(self, edition, book, call):
        self.call = call
        word, self.hand, heard, self.strength = call
        self.heard = list(heard)
        self.first = self.edition = edition
        self.book = book
        self.said, self.uses, self.left, self.end = [], [], [], ()
        self.taken = self.bodies = 0
        self.use(word)
        self.see_whether_over()

    def use(self, word):
        body = dict(self.book).get(word)
        if word not in dict(self.uses):
            self.uses.append((word, body))
        if body is None:
            self.end = ("lost", word)
        else:
            self.bodies += 1
            self.left = [(self.bodies, step) for step in body] + self.left

    def see_whether_over(self):
        if not self.end and not self.left:
            self.end = ("done", self.hand)
        if not self.end and self.taken == self.strength:
            self.end = ("spent",)

    def step(self):
        """What is said with the step."""
        (of_body, step), self.left = self.left[0], self.left[1:]
        self.taken += 1
        said = [self.hand] if step[0] == "say" else []
        self.said += said
        if step[0] == "hear" and not self.heard:
            self.end = ("deaf",)
        elif step[0] == "hear":
            self.hand, self.heard = self.heard[0], self.heard[1:]
        elif step[0] == "end":
            self.left = [(other, later) for other, later in self.left if other != of_body]
        elif step[0] == "plus":
            self.hand += step[1]
        elif step[0] == "times":
            self.hand *= step[1]
        elif step[0] == "turn":
            self.hand = step[1] - self.hand
        elif step[0] == "ask" or step[0] == "odd" and abs(self.hand) % 2:
            self.use(step[1])
        self.see_whether_over()
        return said


class Second:
    """A house reckoned another way: whole books, and the document's words one by one."""

    def __init__(self, book):
        self.editions, self.walkers, self.told, self.waiting = [book], {}, [], []

    def under_way(self):
        return [name for name in self.walkers if not self.walkers[name].end]

    def views(self):
        return [(name, one.first, one.uses, [step for _, step in one.left]) for name, one in self.walkers.items()
                if not one.end]

    def go_by_the_newest(self, name):
        one = self.walkers[name]
        one.edition, one.book = len(self.editions) - 1, self.editions[-1]

    def barring(self, changes):
        editions = self.editions + [exchanged(self.editions[-1], changes)]
        return [view[0] for view in self.views() if not standing(editions, view)]

    def change(self, changes):
        """Whether they were made."""
        if self.barring(changes):
            return False
        self.editions.append(exchanged(self.editions[-1], changes))
        for name in self.under_way():
            self.go_by_the_newest(name)
        return True

    def make_waiting(self):
        while self.waiting and self.change(self.waiting[0]):
            self.waiting = self.waiting[1:]

    def step(self, name):
        said = self.walkers[name].step()
        self.told += [(name, number) for number in said]
        self.make_waiting()
        return said

    def drop(self, name):
        self.walkers[name].end = ("dropped",)
        self.make_waiting()

    def room(self):
        return len(self.editions) + len(self.waiting) < 40

    def witness(self, name):
        one = self.walkers[name]
        return [at for at in range(one.first, len(self.editions))
                if alike(self.editions[at], one.uses, [word for word, _ in one.uses])][0]


class DrawnTurns(PaperReading):

    def setUp(self):
        # How often each thing has happened, so that nothing is tested only in name.
        self.many = {}
        self.draw_book, self.draw_call, self.draw_changes = lively_book, lively_call, lively_changes

    def count(self, what):
        self.many[what] = self.many.get(what, 0) + 1

    def begin_deed(self, house, second, chance):
        if len(second.walkers) == 12:
            return
        name, call = "abcdefghijkl"[len(second.walkers)] * 2, self.draw_call(chance)
        house.begin(name, call)
        second.walkers[name] = Walker(len(second.editions) - 1, second.editions[-1], copy.deepcopy(call))
        call[2].append(5)

    def step_deed(self, house, second, chance):
        if not second.under_way():
            return
        name = chance.choice(second.under_way())
        waiting = len(second.waiting)
        self.assertEqual(house.step(name), second.step(name))
        if len(second.waiting) < waiting:
            self.count("made behind a step")

    def drop_deed(self, house, second, chance):
        if not second.under_way() or chance.randrange(2):
            return
        name = chance.choice(second.under_way())
        waiting = len(second.waiting)
        house.drop(name)
        second.drop(name)
        if len(second.waiting) < waiting:
            self.count("made behind a drop")

    def change_deed(self, house, second, chance):
        if not second.room():
            return
        changes = self.draw_changes(chance)
        names, views = second.barring(changes), second.views()
        editions = second.editions + [exchanged(second.editions[-1], changes)]
        self.assertEqual(house.barring(changes), names)
        paper = house.change(copy.deepcopy(changes))
        self.right(paper, editions, views)
        self.assertEqual(second.change(changes), isinstance(paper, Let))

    def right(self, paper, editions, views):
        """The paper is as it must be of these."""
        self.right_paper(paper, editions, views)
        self.count(type(paper).__name__)

    def wait_deed(self, house, second, chance):
        if not second.room() or len(second.waiting) > 3:
            return
        changes = self.draw_changes(chance)
        second.waiting = second.waiting + [copy.deepcopy(changes)]
        house.wait(changes)
        changes.append(None)
        second.make_waiting()
        if second.waiting:
            self.count("waits")

    def spread_deed(self, house, second, chance):
        if second.room():
            changes = self.draw_changes(chance)
            second.editions.append(exchanged(second.editions[-1], changes))
            house.spread(changes)
            changes.append(None)

    def back_deed(self, house, second, chance):
        if second.room() and len(second.editions) > 1:
            house.back()
            second.editions.append(copy.deepcopy(second.editions[-2]))

    def move_deed(self, house, second, chance):
        if not second.under_way():
            return
        name = chance.choice(second.under_way())
        paper = house.move(name)
        self.right(paper, second.editions, [view for view in second.views() if view[0] == name])
        if isinstance(paper, Let):
            second.go_by_the_newest(name)

    def the_same(self, house, second):
        """Both tell the same of everything."""
        self.assertEqual(house.names(), list(second.walkers))
        self.assertEqual(house.under_way(), second.under_way())
        self.assertEqual(house.views(), second.views())
        self.assertEqual((house.newest(), house.waits()), (len(second.editions) - 1, len(second.waiting)))
        self.assertEqual([house.told_edition(count) for count in range(len(second.editions))], second.editions)
        self.assertEqual(house.told_book(), second.told)
        self.assertEqual(house.behind(), [name for name in second.under_way()
                                          if second.walkers[name].edition < len(second.editions) - 1])
        for name, one in second.walkers.items():
            self.assertEqual((house.said_by(name), house.end_of(name), house.edition_of(name)),
                             (one.said, one.end, one.edition))

    def as_in_one_edition_alone(self, house, second):
        """Whoever is over has said and ended as its call plainly run in the told edition."""
        for name, one in second.walkers.items():
            if not one.end:
                continue
            witness = house.witness(name)
            self.assertEqual(witness, second.witness(name))
            said, end = run(house.told_edition(witness), one.call)
            self.count(house.end_of(name)[0])
            if witness != one.first:
                self.count("not in the edition in which it began")
            if witness != one.edition:
                self.count("not in the edition by which it went at last")
            if house.end_of(name) == ("dropped",):
                self.assertEqual(house.said_by(name), said[:len(house.said_by(name))])
            else:
                self.assertEqual((house.said_by(name), house.end_of(name)), (said, end))

    def turns(self, chance, deeds):
        book = self.draw_book(chance)
        house, second = opened(book), Second(copy.deepcopy(book))
        book.clear()
        for _ in range(80):
            chance.choice(deeds)(house, second, chance)
            self.the_same(house, second)
        for name in second.under_way():
            while not second.walkers[name].end:
                self.assertEqual(house.step(name), second.step(name))
        self.the_same(house, second)
        self.as_in_one_edition_alone(house, second)

    def happened(self, least, *things):
        """Each of the things has happened that often at least."""
        for what in things:
            self.assertGreaterEqual(self.many.get(what, 0), least, (what, self.many))

    def all_deeds(self):
        return [self.begin_deed] * 2 + [self.step_deed] * 8 + [
            self.drop_deed, self.change_deed, self.wait_deed, self.spread_deed, self.back_deed, self.move_deed]

    def test_all_deeds(self):
        chance = random.Random(41)
        for _ in range(150):
            self.turns(chance, self.all_deeds())
        self.happened(10, "Let", "Barred", "waits", "made behind a step", "made behind a drop", "done", "lost", "spent",
                      "dropped", "not in the edition in which it began", "not in the edition by which it went at last")

    def test_all_deeds_with_calls_of_any_sort(self):
        self.draw_book, self.draw_call, self.draw_changes = drawn_book, drawn_call, drawn_changes
        chance = random.Random(45)
        for _ in range(150):
            self.turns(chance, self.all_deeds())
        self.happened(20, "Let", "Barred", "waits", "done", "lost", "deaf", "spent", "dropped",
                      "not in the edition in which it began", "not in the edition by which it went at last")

    def test_changes_at_once_alone(self):
        chance = random.Random(42)
        for _ in range(60):
            self.turns(chance, [self.begin_deed] + [self.step_deed] * 3 + [self.change_deed])
        self.happened(100, "Let", "Barred")
        self.happened(20, "not in the edition in which it began", "not in the edition by which it went at last")

    def test_changes_that_wait_alone(self):
        chance = random.Random(43)
        for _ in range(60):
            self.turns(chance, [self.begin_deed] + [self.step_deed] * 4 + [self.wait_deed, self.drop_deed])
        self.happened(10, "waits", "made behind a step", "made behind a drop", "not in the edition in which it began")

    def test_editions_that_are_spread_alone(self):
        chance = random.Random(44)
        for _ in range(60):
            self.turns(chance, [self.begin_deed] + [self.step_deed] * 3
                       + [self.spread_deed, self.back_deed, self.move_deed, self.move_deed])
        self.happened(50, "Let", "Barred")
        self.happened(20, "not in the edition in which it began", "not in the edition by which it went at last")


if __name__ == "__main__":
    unittest.main()
