"""The house: runners, editions, changes that are let, barred, waiting or spread, and what is refused."""

import copy
import unittest

from midstride.errors import BadBook, BadCall, BadChanges, BadName, Over, TooMany, Underway, Unknown
from midstride.house import House, opened
from midstride.papers import Barred, Let
from midstride.plain import run
from tests.samples import NO_WORDS, Refusing, WORDS, ask, no_books, no_calls, no_changes

SAY = ("say",)
HEAR = ("hear",)
END = ("end",)

NAMES = ["al", "bob", "cy", "dan", "eve", "fay", "gus", "hal", "ida", "jo", "kim", "lee"]


def call(word, in_hand=0, heard=(), strength=120):
    """A call of the word."""
    return (word, in_hand, list(heard), strength)


def plus(*numbers):
    """Steps that add the numbers."""
    return [("plus", number) for number in numbers]


def everything(house):
    """All that the house tells without being changed by it, copied, so that nothing of the house's own is in it."""
    names = house.names()
    told = (names, house.under_way(), house.behind(), house.views(), house.newest(), house.told_book(), house.waits(),
            [house.told_edition(count) for count in range(house.newest() + 1)],
            [(house.said_by(name), house.end_of(name), house.edition_of(name)) for name in names],
            [house.witness(name) for name in names if house.end_of(name)])
    return copy.deepcopy(told)


class Houses(Refusing):

    def house(self, book, *calls):
        """A house with one runner for each call, called al, bob and so on."""
        house = opened(book)
        for name, one in zip(NAMES, calls):
            house.begin(name, one)
        return house

    def steps(self, house, name, many):
        """What the runner says with each of so many steps."""
        return [house.step(name) for _ in range(many)]

    def to_the_end(self, house, name):
        """The runner takes steps till it is over."""
        while not house.end_of(name):
            house.step(name)

    def changes_nothing(self, house, error, action, *handed):
        """It is refused so, and the house tells what it told ahead."""
        ahead = everything(house)
        self.refused(error, action, *handed)
        self.assertEqual(everything(house), ahead)

    def lets(self, house, changes):
        """The changes are made at once, for all."""
        self.assertEqual(house.barring(changes), [])
        editions, views = [house.told_edition(count) for count in range(house.newest() + 1)], house.views()
        paper = house.change(changes)
        self.assertIs(type(paper), Let)
        self.assertEqual(house.newest(), len(editions))
        self.assertTrue(paper.shows(editions + [house.told_edition(len(editions))], views))
        self.assertEqual(house.behind(), [])
        for name in house.under_way():
            self.assertEqual(house.edition_of(name), house.newest())
        return paper.witnesses

    def bars(self, house, changes, names):
        """The changes are barred by these, and nothing changes."""
        self.assertEqual(house.barring(changes), names)
        ahead = everything(house)
        paper = house.change(changes)
        self.assertIs(type(paper), Barred)
        self.assertEqual([name for name, _ in paper.reasons], names)
        self.assertEqual(everything(house), ahead)
        return paper.reasons


class Runners(Houses):

    def test_a_new_house(self):
        house = opened([("a", [SAY])])
        self.assertIs(type(house), House)
        self.assertEqual((house.names(), house.under_way(), house.behind(), house.views()), ([], [], [], []))
        self.assertEqual((house.told_book(), house.newest(), house.waits()), ([], 0, 0))
        self.assertEqual(house.told_edition(0), [("a", [SAY])])
        self.assertEqual(opened([]).told_edition(0), [])

    def test_two_houses_know_nothing_of_one_another(self):
        one, other = opened([]), opened([])
        one.begin("al", call("a"))
        one.spread([("a", [])])
        self.assertEqual((other.names(), other.newest()), ([], 0))

    def test_calls_that_are_over_at_once(self):
        house = self.house([("a", []), ("b", [SAY])], call("a", 7), call("b", 7, [], 0), call("c", 7),
                           call("a", 8, [], 0))
        self.assertEqual([house.end_of(name) for name in house.names()],
                         [("done", 7), ("spent",), ("lost", "c"), ("done", 8)])
        self.assertEqual((house.names(), house.under_way(), house.views()), (NAMES[:4], [], []))
        for name in house.names():
            self.assertEqual((house.said_by(name), house.edition_of(name), house.witness(name)), ([], 0, 0))
            self.refused(Over, house.step, name)
        self.assertEqual(house.told_book(), [])

    def test_begin_and_drop_tell_nothing(self):
        house = opened([("a", [SAY])])
        self.assertIsNone(house.begin("al", call("a")))
        self.assertIsNone(house.wait([]))
        self.assertIsNone(house.spread([]))
        self.assertIsNone(house.back())
        self.assertIsNone(house.drop("al"))

    def test_what_is_said_with_each_step(self):
        house = self.house([("a", [SAY, ("plus", 1), HEAR, SAY, ("times", 3), SAY])], call("a", 4, [9]))
        self.assertEqual(self.steps(house, "al", 6), [[4], [], [], [9], [], [27]])
        self.assertEqual(house.said_by("al"), [4, 9, 27])
        self.assertEqual(house.end_of("al"), ("done", 27))
        self.assertEqual(house.told_book(), [("al", 4), ("al", 9), ("al", 27)])

    def test_the_end_comes_with_the_last_step(self):
        house = self.house([("a", [SAY, SAY])], call("a", 1), call("a", 2, [], 1))
        self.assertEqual(house.end_of("al"), ())
        house.step("al")
        self.assertEqual(house.end_of("al"), ())
        house.step("al")
        self.assertEqual(house.end_of("al"), ("done", 1))
        self.assertEqual((house.step("bob"), house.end_of("bob")), ([2], ("spent",)))

    def test_every_end(self):
        house = self.house([("a", [HEAR, SAY]), ("b", ask("c", "d"))], call("a"), call("b"), call("a", 0, [5]),
                           call("a", 0, [5], 1), call("a", 0, [6]))
        for name in ["al", "bob", "cy", "dan", "cy"]:
            house.step(name)
        house.drop("eve")
        self.assertEqual([house.end_of(name) for name in house.names()],
                         [("deaf",), ("lost", "c"), ("done", 5), ("spent",), ("dropped",)])

    def test_the_house_book_in_turn(self):
        house = self.house([("a", [SAY, ("plus", 1)] * 4)], call("a", 10), call("a", 20), call("a", 30))
        for name in ["bob", "al", "al", "al", "cy", "bob", "bob", "cy", "cy"]:
            house.step(name)
        self.assertEqual(house.told_book(), [("bob", 20), ("al", 10), ("al", 11), ("cy", 30), ("bob", 21), ("cy", 31)])
        self.assertEqual([house.said_by(name) for name in NAMES[:3]], [[10, 11], [20, 21], [30, 31]])

    def test_names_as_they_began(self):
        house = opened([("a", [SAY]), ("b", [])])
        for name, word in [("zoe", "a"), ("al", "b"), ("bob", "a"), ("abe", "a"), ("zed", "c"), ("cy", "a")]:
            house.begin(name, call(word))
        self.assertEqual(house.names(), ["zoe", "al", "bob", "abe", "zed", "cy"])
        self.assertEqual(house.under_way(), ["zoe", "bob", "abe", "cy"])
        house.step("bob")
        house.drop("zoe")
        self.assertEqual(house.names(), ["zoe", "al", "bob", "abe", "zed", "cy"])
        self.assertEqual(house.under_way(), ["abe", "cy"])
        house.spread([])
        self.assertEqual(house.behind(), ["abe", "cy"])
        self.assertEqual([view[0] for view in house.views()], ["abe", "cy"])

    def test_names_of_any_length(self):
        house = opened([("a", [SAY])])
        for name in WORDS:
            house.begin(name, call("a"))
        self.assertEqual(house.names(), WORDS)

    def test_dropped(self):
        house = self.house([("a", [SAY, SAY, SAY])], call("a", 7), call("a", 8))
        house.step("al")
        house.step("bob")
        house.drop("al")
        self.assertEqual((house.said_by("al"), house.end_of("al")), ([7], ("dropped",)))
        self.assertEqual((house.names(), house.under_way()), (["al", "bob"], ["bob"]))
        self.assertEqual(house.told_book(), [("al", 7), ("bob", 8)])
        self.assertEqual((house.edition_of("al"), house.witness("al")), (0, 0))
        house.begin("cy", call("a", 9))
        house.drop("cy")
        self.assertEqual((house.said_by("cy"), house.end_of("cy"), house.witness("cy")), ([], ("dropped",), 0))

    def test_twelve_run_apart(self):
        book = [("a", [HEAR, SAY, ("odd", "b"), SAY]), ("b", [SAY, ("times", 2), HEAR])]
        calls = [call("a", 0, range(many), 9) for many in range(12)]
        house = self.house(book, *calls)
        for _ in range(9):
            for name in house.under_way()[::-1]:
                house.step(name)
        for name, one in zip(NAMES, calls):
            self.assertEqual((house.said_by(name), house.end_of(name)), run(book, one))


class Views(Houses):

    def test_at_the_beginning(self):
        house = self.house([("a", [SAY, ("ask", "b")]), ("b", [])], call("a"))
        self.assertEqual(house.views(), [("al", 0, [("a", [SAY, ("ask", "b")])], [SAY, ("ask", "b")])])

    def test_within_bodies_that_were_used_by_others(self):
        book = [("a", [("ask", "b"), ("plus", 1), ("plus", 2)]), ("b", [SAY, ("ask", "c"), ("plus", 3)]),
                ("c", [SAY, ("plus", 4)])]
        house = self.house(book, call("a"))
        house.step("al")
        self.assertEqual(house.views(), [("al", 0, [book[0], book[1]],
                                          [SAY, ("ask", "c"), ("plus", 3), ("plus", 1), ("plus", 2)])])
        self.steps(house, "al", 2)
        self.assertEqual(house.views(), [("al", 0, book, [SAY] + plus(4, 3, 1, 2))])
        self.steps(house, "al", 2)
        self.assertEqual(house.views(), [("al", 0, book, plus(3, 1, 2))])
        house.step("al")
        self.assertEqual(house.views(), [("al", 0, book, plus(1, 2))])

    def test_with_an_end_still_ahead(self):
        book = [("a", [("ask", "b"), END, ("ask", "c")]), ("b", [SAY, END, ("ask", "d")])]
        house = self.house(book, call("a"))
        self.assertEqual(house.views()[0][3], [("ask", "b"), END, ("ask", "c")])
        house.step("al")
        self.assertEqual(house.views()[0][3], [SAY, END, ("ask", "d"), END, ("ask", "c")])
        house.step("al")
        self.assertEqual(house.views()[0][3], [END, ("ask", "d"), END, ("ask", "c")])
        house.step("al")
        self.assertEqual(house.views()[0][3], [END, ("ask", "c")])
        house.step("al")
        self.assertEqual((house.views(), house.end_of("al")), ([], ("done", 0)))

    def test_words_used_once_more(self):
        book = [("a", [SAY, ("ask", "b"), ("ask", "b"), ("ask", "a")]), ("b", [SAY])]
        house = self.house(book, call("a"))
        self.steps(house, "al", 6)
        self.assertEqual(house.views(), [("al", 0, book, book[0][1])])

    def test_the_edition_in_which_it_began(self):
        house = self.house([("a", [SAY, SAY])], call("a"))
        house.spread([("b", [])])
        house.begin("bob", call("a"))
        house.spread([("b", [])])
        house.begin("cy", call("a"))
        self.assertEqual([view[:2] for view in house.views()], [("al", 0), ("bob", 1), ("cy", 2)])
        self.lets(house, [])
        self.assertEqual([view[:2] for view in house.views()], [("al", 0), ("bob", 1), ("cy", 2)])
        self.assertEqual([house.edition_of(name) for name in NAMES[:3]], [3, 3, 3])

    def test_of_one_that_goes_by_a_newer_book(self):
        house = self.house([("a", [("ask", "b"), ("ask", "c")]), ("b", []), ("c", [])], call("a"))
        house.step("al")
        self.lets(house, [("c", [SAY, END])])
        self.assertEqual(house.views(), [("al", 0, [("a", ask("b", "c")), ("b", [])], ask("c"))])
        house.step("al")
        self.assertEqual(house.views(), [("al", 0, [("a", ask("b", "c")), ("b", []), ("c", [SAY, END])], [SAY, END])])


class Changes(Houses):

    def test_with_nobody_under_way(self):
        house = self.house([("a", [])], call("a"))
        self.assertEqual(self.lets(house, [("a", [SAY]), ("c", [])]), [])
        self.assertEqual(self.lets(house, [("a", None)]), [])
        self.assertEqual(self.lets(house, []), [])
        self.assertEqual([house.told_edition(count) for count in range(4)],
                         [[("a", [])], [("a", [SAY]), ("c", [])], [("c", [])], [("c", [])]])
        self.assertEqual((house.edition_of("al"), house.witness("al")), (0, 0))

    def test_changes_are_those_of_the_newest_edition(self):
        house = opened([("b", [])])
        self.lets(house, [("a", [SAY])])
        self.lets(house, [("d", [END]), ("c", [])])
        self.lets(house, [("b", None), ("a", [])])
        self.assertEqual(house.told_edition(3), [("a", []), ("c", []), ("d", [END])])

    def test_all_under_way_go_by_the_newer_book(self):
        book = [("a", [("ask", "b"), ("ask", "c")]), ("b", plus(1)), ("c", [SAY])]
        house = self.house(book, call("a", 10), call("a", 20))
        self.steps(house, "al", 2)
        self.bars(house, [("b", plus(2)), ("c", [("times", 2), SAY])], ["al"])
        self.assertEqual(self.lets(house, [("c", [("times", 2), SAY])]), [("al", 1), ("bob", 1)])
        self.assertEqual([house.edition_of("al"), house.edition_of("bob")], [1, 1])
        self.to_the_end(house, "al")
        self.to_the_end(house, "bob")
        self.assertEqual([house.said_by("al"), house.said_by("bob")], [[22], [42]])
        self.assertEqual([house.witness("al"), house.witness("bob")], [1, 1])

    def test_a_body_that_was_begun_is_gone_through_as_begun(self):
        house = self.house([("a", [SAY, ("plus", 1), SAY])], call("a", 10))
        house.step("al")
        self.assertEqual(self.lets(house, [("a", [("plus", 50), SAY])]), [("al", 0)])
        self.assertEqual(self.steps(house, "al", 2), [[], [11]])
        self.assertEqual((house.end_of("al"), house.edition_of("al"), house.witness("al")), (("done", 11), 1, 0))
        house.begin("bob", call("a", 10))
        self.to_the_end(house, "bob")
        self.assertEqual((house.said_by("bob"), house.edition_of("bob"), house.witness("bob")), ([60], 1, 1))

    def test_an_older_body_begun_and_a_newer_one_used(self):
        book = [("a", ask("b", "c")), ("b", [SAY, ("plus", 1)]), ("c", [SAY])]
        house = self.house(book, call("a", 10))
        self.steps(house, "al", 2)
        self.assertEqual(self.lets(house, [("d", [END])]), [("al", 0)])
        self.bars(house, [("a", ask("c")), ("c", [("times", 2), SAY])], ["al"])
        self.assertEqual(self.lets(house, [("a", ask("c"))]), [("al", 0)])
        self.bars(house, [("c", [("times", 2), SAY])], ["al"])
        self.to_the_end(house, "al")
        self.assertEqual((house.said_by("al"), house.witness("al")), ([10, 11], 0))

    def test_barred_for_what_was_used(self):
        house = self.house([("a", [SAY] + ask("b")), ("b", [])], call("a"), call("b"))
        self.assertEqual(self.bars(house, [("a", [SAY]), ("b", [SAY])], ["al"]),
                         [("al", [("may", ["b"]), ("used", "a")])])
        self.assertEqual(house.step("al"), [0])
        self.assertEqual(house.edition_of("al"), 0)

    def test_barred_for_what_may_be_used(self):
        book = [("a", [SAY] + ask("b")), ("b", ask("c")), ("c", [])]
        house = self.house(book, call("a"))
        self.steps(house, "al", 3)
        self.assertEqual(house.under_way(), [])
        house.begin("bob", call("b"))
        house.begin("cy", call("a"))
        self.assertEqual(self.bars(house, [("b", []), ("c", [SAY])], ["bob"]),
                         [("bob", [("may", ["c"]), ("used", "b")])])
        self.assertEqual(self.lets(house, [("c", [SAY])]), [("bob", 1), ("cy", 1)])

    def test_those_that_bar_are_told_in_their_turn(self):
        book = [("a", [SAY] + ask("c")), ("b", [SAY] + ask("d")), ("c", []), ("d", [])]
        house = self.house(book, call("b"), call("a"), call("b"), call("a"), call("c"), call("b"))
        changes = [("b", []), ("d", None)]
        self.assertEqual([name for name, _ in self.bars(house, changes, ["al", "cy", "fay"])], ["al", "cy", "fay"])
        house.drop("al")
        self.bars(house, changes, ["cy", "fay"])
        self.steps(house, "cy", 2)
        self.bars(house, changes, ["fay"])
        house.step("fay")
        self.bars(house, changes, ["fay"])
        house.step("fay")
        self.assertEqual([name for name, _ in self.lets(house, changes)], ["bob", "dan"])

    def test_of_those_that_wait_at_an_older_edition(self):
        house = self.house([("a", [SAY] + ask("b")), ("b", [])], call("a"))
        house.spread([("b", [SAY])])
        house.begin("bob", call("a"))
        house.spread([("a", [])])
        self.assertEqual(house.behind(), ["al", "bob"])
        self.bars(house, [("b", [SAY, SAY])], ["al", "bob"])
        self.assertEqual([house.edition_of(name) for name in ["al", "bob"]], [0, 1])
        self.assertEqual(self.lets(house, [("c", [])]), [("al", 1), ("bob", 1)])
        self.assertEqual([house.edition_of(name) for name in ["al", "bob"]], [3, 3])
        for name in ["al", "bob"]:
            self.to_the_end(house, name)
            self.assertEqual((house.said_by(name), house.witness(name)), ([0, 0], 1))

    def test_one_reason_for_each_edition_from_the_first_one(self):
        house = self.house([("a", [SAY, SAY])])
        house.spread([("b", [])])
        house.begin("al", call("a"))
        house.step("al")
        house.spread([("a", [])])
        house.begin("bob", call("a"))
        house.begin("cy", call("b"))
        house.begin("dan", call("c"))
        self.assertEqual(house.under_way(), ["al"])
        self.assertEqual(self.lets(house, [("a", None)]), [("al", 1)])
        house.begin("eve", call("d"))
        house.spread([("e", [SAY] + ask("f"))])
        house.begin("fay", call("e"))
        self.assertEqual(self.bars(house, [("e", None), ("f", [])], ["fay"]),
                         [("fay", [("may", ["f"]), ("used", "e")])])

    def test_a_word_that_has_no_body_any_more(self):
        house = self.house([("a", [SAY] + ask("b")), ("b", [])], call("a", 5))
        self.assertEqual(self.lets(house, [("b", None)]), [("al", 1)])
        self.steps(house, "al", 2)
        self.assertEqual((house.end_of("al"), house.witness("al")), (("lost", "b"), 1))

    def test_barring_changes_nothing(self):
        house = self.house([("a", [SAY] + ask("b")), ("b", [])], call("a"))
        ahead = everything(house)
        self.assertEqual(house.barring([("a", [])]), [])
        self.assertEqual(house.barring([("a", []), ("b", None)]), ["al"])
        self.assertEqual(everything(house), ahead)


class Waiting(Houses):

    BOOK = [("a", [SAY] + ask("b") + [SAY]), ("b", [])]
    # These two together are barred while somebody has used the word a and may yet use the word b.
    BOTH = [("a", []), ("b", [SAY])]

    def test_made_at_once(self):
        house = self.house(self.BOOK, call("a"))
        house.wait([("c", [])])
        self.assertEqual((house.waits(), house.newest(), house.edition_of("al")), (0, 1, 1))
        self.assertEqual(house.told_edition(1), self.BOOK + [("c", [])])

    def test_made_behind_a_step(self):
        house = self.house(self.BOOK, call("a"))
        house.wait(self.BOTH)
        self.assertEqual((house.waits(), house.newest()), (1, 0))
        self.assertEqual(house.step("al"), [0])
        self.assertEqual((house.waits(), house.newest(), house.edition_of("al")), (1, 0, 0))
        self.assertEqual(house.step("al"), [])
        self.assertEqual((house.waits(), house.newest(), house.edition_of("al")), (0, 1, 1))
        self.assertEqual(house.told_edition(1), self.BOTH)
        self.assertEqual(house.step("al"), [0])
        self.assertEqual((house.end_of("al"), house.witness("al")), (("done", 0), 0))

    def test_made_behind_a_step_that_ends_a_call(self):
        house = self.house(self.BOOK, call("a", 7, [], 1))
        house.wait(self.BOTH)
        self.assertEqual((house.waits(), house.newest()), (1, 0))
        self.assertEqual(house.step("al"), [7])
        self.assertEqual((house.waits(), house.newest(), house.end_of("al")), (0, 1, ("spent",)))
        # It was over when the changes were made, so it went by the older edition at last.
        self.assertEqual((house.edition_of("al"), house.witness("al")), (0, 0))

    def test_made_behind_a_drop(self):
        house = self.house(self.BOOK, call("a"), call("a"))
        house.wait(self.BOTH)
        house.drop("bob")
        self.assertEqual((house.waits(), house.newest()), (1, 0))
        house.drop("al")
        self.assertEqual((house.waits(), house.newest()), (0, 1))
        self.assertEqual((house.edition_of("al"), house.edition_of("bob")), (0, 0))

    def test_made_behind_a_step_of_another_one(self):
        house = self.house(self.BOOK, call("a"), call("a"))
        self.steps(house, "al", 2)
        house.wait(self.BOTH)
        self.assertEqual(house.waits(), 1)
        house.step("al")
        self.assertEqual(house.waits(), 1)
        self.steps(house, "bob", 2)
        self.assertEqual((house.waits(), house.newest(), house.edition_of("bob"), house.edition_of("al")), (0, 1, 1, 0))

    def blocked_and_freed(self):
        """A house whose first changes that wait would be let now, but nothing that makes them came behind.

        Al has used a and may use b: the changes were barred till an edition was spread that has b as they do.
        """
        house = self.house(self.BOOK, call("a"))
        house.wait(self.BOTH)
        self.assertEqual(house.waits(), 1)
        house.spread([("b", [SAY])])
        self.assertEqual(house.barring(self.BOTH), [])
        return house

    def test_behind_nothing_else(self):
        house = self.blocked_and_freed()
        self.assertEqual((house.waits(), house.newest()), (1, 1))
        house.begin("bob", call("c"))
        self.assertEqual((house.waits(), house.newest()), (1, 1))
        self.assertIs(type(house.move("al")), Let)
        self.assertEqual((house.waits(), house.newest()), (1, 1))
        house.spread([("d", [])])
        self.assertEqual((house.waits(), house.newest()), (1, 2))
        self.lets(house, [("e", [])])
        self.assertEqual((house.waits(), house.newest()), (1, 3))
        house.back()
        self.assertEqual((house.waits(), house.newest()), (1, 4))
        house.barring([])
        everything(house)
        self.refused(Over, house.step, "bob")
        self.refused(Over, house.drop, "bob")
        self.refused(Unknown, house.step, "zoe")
        self.refused(BadName, house.drop, None)
        self.refused(BadChanges, house.wait, None)
        self.assertEqual((house.waits(), house.newest()), (1, 4))
        house.step("al")
        self.assertEqual((house.waits(), house.newest(), house.told_edition(5)), (0, 5, self.BOTH + [("d", [])]))

    def test_behind_a_wait_those_before_it_come_first(self):
        house = self.blocked_and_freed()
        house.wait([("c", [SAY])])
        self.assertEqual((house.waits(), house.newest()), (0, 3))
        self.assertEqual(house.told_edition(2), self.BOTH)
        self.assertEqual(house.told_edition(3), self.BOTH + [("c", [SAY])])

    def test_none_ahead_of_those_before_it(self):
        house = self.house(self.BOOK, call("a"))
        house.wait(self.BOTH)
        house.wait([("c", [])])
        house.wait([("c", None), ("d", [])])
        self.assertEqual((house.waits(), house.newest()), (3, 0))
        house.step("al")
        self.assertEqual((house.waits(), house.newest()), (3, 0))
        house.step("al")
        self.assertEqual((house.waits(), house.newest()), (0, 3))
        self.assertEqual([house.told_edition(count) for count in (1, 2, 3)],
                         [self.BOTH, self.BOTH + [("c", [])], self.BOTH + [("d", [])]])

    def test_till_some_are_not_let(self):
        book = [("a", [SAY] + ask("b") + [SAY]), ("b", []), ("c", [SAY, SAY] + ask("d")), ("d", [])]
        house = self.house(book, call("a"), call("c"))
        house.wait(self.BOTH)
        house.wait([("c", []), ("d", [SAY])])
        house.wait([("e", [])])
        self.assertEqual(house.waits(), 3)
        self.steps(house, "al", 2)
        self.assertEqual((house.waits(), house.newest(), house.edition_of("bob")), (2, 1, 1))
        self.steps(house, "bob", 2)
        self.assertEqual((house.waits(), house.newest()), (2, 1))
        house.step("bob")
        self.assertEqual((house.waits(), house.newest(), house.end_of("bob")), (0, 3, ("done", 0)))
        self.assertEqual((house.edition_of("bob"), house.witness("bob")), (1, 0))

    def test_they_are_changes_of_what_is_newest_then(self):
        house = self.house(self.BOOK, call("a"))
        house.wait(self.BOTH)
        house.spread([("a", [END]), ("c", [])])
        self.steps(house, "al", 2)
        self.assertEqual((house.waits(), house.newest()), (0, 2))
        self.assertEqual(house.told_edition(2), [("a", []), ("b", [SAY]), ("c", [])])

    def test_changes_may_be_made_while_others_wait(self):
        house = self.house(self.BOOK, call("a"))
        house.wait(self.BOTH)
        self.lets(house, [("c", [])])
        self.assertEqual((house.waits(), house.newest()), (1, 1))
        self.bars(house, self.BOTH, ["al"])
        self.assertEqual(house.waits(), 1)

    def test_changed_behind_it(self):
        changes = copy.deepcopy(self.BOTH)
        house = self.house(self.BOOK, call("a"))
        house.wait(changes)
        changes[1][1].clear()
        changes.clear()
        self.steps(house, "al", 2)
        self.assertEqual(house.told_edition(1), self.BOTH)


class Editions(Houses):

    BOOK = [("a", [SAY] + ask("b")), ("b", [])]

    def test_spread(self):
        house = self.house(self.BOOK, call("a", 1))
        house.spread([("b", [SAY]), ("c", [])])
        self.assertEqual((house.newest(), house.edition_of("al"), house.behind()), (1, 0, ["al"]))
        self.assertEqual(house.told_edition(0), self.BOOK)
        self.assertEqual(house.told_edition(1), [("a", [SAY] + ask("b")), ("b", [SAY]), ("c", [])])
        house.begin("bob", call("a", 2))
        self.assertEqual((house.edition_of("bob"), house.behind()), (1, ["al"]))
        for name in ["al", "bob"]:
            self.to_the_end(house, name)
        self.assertEqual([house.said_by(name) for name in ["al", "bob"]], [[1], [2, 2]])
        self.assertEqual([house.witness(name) for name in ["al", "bob"]], [0, 1])
        self.assertEqual(house.behind(), [])

    def test_spread_of_what_would_be_barred(self):
        house = self.house(self.BOOK, call("a", 1))
        changes = [("a", None), ("b", [END])]
        self.assertEqual(house.barring(changes), ["al"])
        house.spread(changes)
        self.assertEqual(house.told_edition(1), [("b", [END])])
        self.to_the_end(house, "al")
        self.assertEqual((house.said_by("al"), house.end_of("al"), house.witness("al")), ([1], ("done", 1), 0))

    def test_spread_of_nothing(self):
        house = self.house(self.BOOK, call("a"))
        house.spread([])
        self.assertEqual((house.newest(), house.told_edition(1), house.behind()), (1, self.BOOK, ["al"]))

    def test_back(self):
        house = self.house(self.BOOK, call("a"))
        house.spread([("b", [SAY])])
        house.begin("bob", call("a"))
        house.back()
        self.assertEqual((house.newest(), house.behind()), (2, ["al", "bob"]))
        self.assertEqual(house.told_edition(2), self.BOOK)
        self.assertEqual(house.told_edition(1), [("a", [SAY] + ask("b")), ("b", [SAY])])
        house.begin("cy", call("a"))
        self.assertEqual([house.edition_of(name) for name in ["al", "bob", "cy"]], [0, 1, 2])
        for name in ["al", "bob", "cy"]:
            self.to_the_end(house, name)
        self.assertEqual([house.witness(name) for name in ["al", "bob", "cy"]], [0, 1, 2])

    def test_back_twice(self):
        house = opened(self.BOOK)
        house.spread([("c", [])])
        house.spread([("d", [])])
        house.back()
        house.back()
        house.back()
        books = [house.told_edition(count) for count in range(6)]
        self.assertEqual(house.newest(), 5)
        self.assertEqual(books[2], self.BOOK + [("c", []), ("d", [])])
        self.assertEqual(books[3:], [books[1], books[2], books[1]])

    def test_back_behind_changes_that_were_let(self):
        house = opened(self.BOOK)
        self.lets(house, [("b", [SAY])])
        house.back()
        self.assertEqual((house.newest(), house.told_edition(2)), (2, self.BOOK))

    def test_changes_behind_back(self):
        house = opened(self.BOOK)
        self.lets(house, [("b", [SAY])])
        house.back()
        self.lets(house, [("c", [])])
        self.assertEqual([house.told_edition(count) for count in (0, 2, 3)],
                         [self.BOOK, self.BOOK, self.BOOK + [("c", [])]])
        self.assertEqual(house.told_edition(1), [("a", [SAY] + ask("b")), ("b", [SAY])])

    def test_back_of_one_edition_alone(self):
        house = self.house(self.BOOK, call("a"))
        self.changes_nothing(house, Unknown, house.back)
        house.wait([("a", []), ("b", [SAY])])
        self.assertEqual(house.waits(), 1)
        self.changes_nothing(house, Unknown, house.back)

    def test_move_that_is_let(self):
        house = self.house(self.BOOK, call("a", 1), call("a", 2))
        house.spread([("b", [SAY])])
        self.assertEqual(house.behind(), ["al", "bob"])
        paper = house.move("al")
        self.assertIs(type(paper), Let)
        self.assertEqual(paper.witnesses, [("al", 1)])
        self.assertEqual((house.edition_of("al"), house.edition_of("bob"), house.behind()), (1, 0, ["bob"]))
        self.assertEqual(house.newest(), 1)
        for name in ["al", "bob"]:
            self.to_the_end(house, name)
        self.assertEqual([house.said_by(name) for name in ["al", "bob"]], [[1, 1], [2]])
        self.assertEqual([house.witness(name) for name in ["al", "bob"]], [1, 0])
        self.assertEqual([house.edition_of(name) for name in ["al", "bob"]], [1, 0])

    def test_move_that_is_barred(self):
        house = self.house(self.BOOK, call("a", 1), call("a", 2))
        house.spread([("a", []), ("b", [SAY])])
        ahead = everything(house)
        paper = house.move("bob")
        self.assertIs(type(paper), Barred)
        self.assertEqual(paper.reasons, [("bob", [("may", ["b"]), ("used", "a")])])
        self.assertEqual(everything(house), ahead)
        self.to_the_end(house, "bob")
        self.assertEqual((house.said_by("bob"), house.edition_of("bob")), ([2], 0))

    def test_move_by_way_of_an_edition_between(self):
        house = self.house(self.BOOK, call("a", 1))
        house.spread([("b", [SAY])])
        house.spread([("a", [])])
        self.assertEqual(house.move("al").witnesses, [("al", 1)])
        self.to_the_end(house, "al")
        self.assertEqual((house.said_by("al"), house.edition_of("al"), house.witness("al")), ([1, 1], 2, 1))

    def test_move_of_one_that_goes_by_the_newest_already(self):
        house = self.house(self.BOOK, call("a", 1))
        ahead = everything(house)
        self.assertEqual(house.move("al").witnesses, [("al", 0)])
        self.assertEqual(everything(house), ahead)

    def test_move_with_those_alone_that_bar_nothing(self):
        house = self.house(self.BOOK + [("c", [SAY, SAY])], call("a"), call("c"))
        house.spread([("a", []), ("b", [SAY])])
        self.assertEqual(house.move("bob").witnesses, [("bob", 0)])
        self.assertEqual(house.behind(), ["al"])
        self.assertEqual([name for name, _ in house.move("al").reasons], ["al"])
        self.assertEqual((house.edition_of("bob"), house.edition_of("al")), (1, 0))

    def test_move_back(self):
        house = self.house(self.BOOK, call("a", 1))
        house.spread([("b", [SAY])])
        house.move("al")
        house.back()
        self.assertEqual(house.behind(), ["al"])
        self.assertEqual(house.move("al").witnesses, [("al", 0)])
        self.to_the_end(house, "al")
        self.assertEqual((house.said_by("al"), house.edition_of("al"), house.witness("al")), ([1], 2, 0))

    def test_behind_tells_counts_not_books(self):
        house = self.house(self.BOOK, call("a", 1))
        house.spread([])
        self.assertEqual(house.behind(), ["al"])
        house.move("al")
        self.assertEqual(house.behind(), [])


class Witnesses(Houses):

    def test_the_least_edition_that_has_all_that_was_used(self):
        house = self.house([("a", ask("b")), ("b", [SAY])], call("a"))
        house.spread([("b", [END])])
        house.spread([("c", [])])
        house.move("al")
        self.to_the_end(house, "al")
        self.assertEqual((house.edition_of("al"), house.witness("al")), (2, 1))

    def test_from_the_one_in_which_it_began_on(self):
        house = opened([("a", [SAY])])
        house.spread([("a", [])])
        house.back()
        house.begin("al", call("a"))
        house.step("al")
        self.assertEqual(house.witness("al"), 2)

    def test_one_that_has_used_less_than_it_might(self):
        house = self.house([("a", [SAY] + ask("b")), ("b", [])], call("a"))
        house.spread([("b", [SAY])])
        house.move("al")
        house.drop("al")
        self.assertEqual((house.edition_of("al"), house.witness("al")), (1, 0))

    def test_one_that_was_lost(self):
        house = self.house([("a", ask("b")), ("b", [])], call("a"))
        house.spread([("b", None)])
        house.spread([("c", [])])
        house.move("al")
        house.step("al")
        self.assertEqual((house.end_of("al"), house.witness("al")), (("lost", "b"), 1))
        house.begin("bob", call("z"))
        self.assertEqual(house.witness("bob"), 2)

    def test_steps_that_were_left_do_not_count(self):
        house = self.house([("a", [SAY, SAY] + ask("b")), ("b", [])], call("a", 0, [], 1), call("a", 0, [], 2))
        house.spread([("b", [SAY])])
        house.step("al")
        house.step("bob")
        house.drop("bob")
        self.assertEqual((house.witness("al"), house.witness("bob")), (0, 0))

    def test_it_stays(self):
        house = self.house([("a", [SAY])], call("a"))
        house.step("al")
        for _ in range(3):
            house.spread([("a", [])])
            house.back()
            self.assertEqual((house.witness("al"), house.edition_of("al")), (0, 0))


class Rooms(Houses):

    def test_twelve_that_have_begun(self):
        house = opened([("a", [SAY])])
        for many, name in enumerate(NAMES):
            self.assertEqual(len(house.names()), many)
            house.begin(name, call("a"))
        self.changes_nothing(house, TooMany, house.begin, "zoe", call("a"))
        for name in NAMES:
            self.assertEqual(house.step(name), [0])
        self.changes_nothing(house, TooMany, house.begin, "zoe", call("a"))
        self.changes_nothing(house, TooMany, house.begin, "zoe", call("b"))

    def test_those_that_are_over_count(self):
        house = opened([("a", [SAY])])
        for name in NAMES[:6]:
            house.begin(name, call("b"))
        for name in NAMES[6:]:
            house.begin(name, call("a"))
            house.drop(name)
        self.changes_nothing(house, TooMany, house.begin, "zoe", call("a"))

    def test_what_was_refused_does_not_count(self):
        house = opened([])
        for name in NAMES[:11]:
            house.begin(name, call("a"))
        self.refused(BadName, house.begin, "al", call("a"))
        self.refused(BadCall, house.begin, "lee", None)
        house.begin("lee", call("a"))
        self.assertEqual(house.names(), NAMES)

    def fills(self, house):
        """There is no room for one more edition, by any way, and asking for one changes nothing."""
        for ask_for in [house.change, house.wait, house.spread]:
            self.changes_nothing(house, TooMany, ask_for, [])
            self.changes_nothing(house, TooMany, ask_for, [("b", [SAY])])
        self.changes_nothing(house, TooMany, house.back)

    def test_forty_editions(self):
        ways = [lambda house: house.change([]), lambda house: house.spread([("a", [])]),
                lambda house: house.wait([("b", [])])]
        for way in ways:
            house = opened([("a", [SAY])])
            for many in range(39):
                self.assertEqual(house.newest(), many)
                way(house)
            self.assertEqual((house.newest(), house.waits()), (39, 0))
            self.fills(house)
            self.assertEqual(house.barring([("c", [])]), [])

    def test_forty_editions_by_going_back(self):
        house = opened([("a", [SAY])])
        house.spread([("a", [])])
        for count in range(2, 40):
            house.back()
            self.assertEqual((house.newest(), house.told_edition(count)), (count, [("a", [] if count % 2 else [SAY])]))
        self.fills(house)

    def test_those_that_wait_count(self):
        for waiting in [1, 2, 20, 38]:
            house = self.house([("a", [SAY] + ask("b")), ("b", [])], call("a"), call("a"))
            house.spread([])
            for many in range(waiting):
                house.wait([("a", plus(many)), ("b", plus(many))])
            self.assertEqual((house.newest(), house.waits()), (1, waiting))
            for _ in range(38 - waiting):
                house.spread([])
            self.assertEqual(house.newest() + 1 + house.waits(), 40)
            self.fills(house)
            self.assertEqual(house.barring([]), [])
            self.assertEqual(house.barring([("a", []), ("b", None)]), ["al", "bob"])
            house.drop("al")
            self.assertEqual(house.waits(), waiting)
            house.drop("bob")
            self.assertEqual((house.newest(), house.waits()), (39, 0))
            self.assertEqual(house.told_edition(39), [("a", plus(waiting - 1)), ("b", plus(waiting - 1))])
            self.fills(house)

    def test_all_but_one_wait(self):
        house = self.house([("a", [SAY] + ask("b")), ("b", [])], call("a"))
        for many in range(39):
            house.wait([("a", plus(many)), ("b", plus(many))])
        self.assertEqual((house.newest(), house.waits()), (0, 39))
        self.changes_nothing(house, TooMany, house.wait, [])
        self.changes_nothing(house, TooMany, house.change, [])
        self.changes_nothing(house, TooMany, house.spread, [])
        self.changes_nothing(house, Unknown, house.back)
        self.steps(house, "al", 2)
        self.assertEqual((house.newest(), house.waits()), (39, 0))

    def test_steps_moves_and_drops_go_on_where_there_is_no_room(self):
        house = opened([("a", [SAY, SAY])])
        house.begin("al", call("a", 1))
        for _ in range(39):
            house.spread([])
        self.assertEqual((house.step("al"), house.behind()), ([1], ["al"]))
        self.assertEqual(house.move("al").witnesses, [("al", 0)])
        self.assertEqual(house.edition_of("al"), 39)
        house.drop("al")
        self.assertEqual(house.witness("al"), 0)

    def test_changes_that_were_barred_take_no_room(self):
        house = self.house([("a", [SAY] + ask("b")), ("b", [])], call("a"))
        for _ in range(50):
            self.bars(house, [("a", []), ("b", [SAY])], ["al"])
        self.assertEqual(house.newest(), 0)


class Refusals(Houses):

    def one_house(self):
        """A house with al under way, behind, bob over, some that wait, and three editions."""
        house = self.house([("a", [SAY, SAY] + ask("b")), ("b", [])], call("a", 7), call("b", 8))
        house.step("al")
        house.spread([("c", [])])
        house.spread([("d", [])])
        house.wait([("a", []), ("b", [SAY])])
        self.assertEqual((house.under_way(), house.behind(), house.waits(), house.newest()), (["al"], ["al"], 1, 2))
        return house

    def test_no_book(self):
        for book in no_books():
            self.refused(BadBook, opened, book)

    def test_no_name(self):
        house = self.one_house()
        ahead = everything(house)
        for name in NO_WORDS:
            for asked in [house.step, house.drop, house.move, house.said_by, house.end_of, house.edition_of,
                          house.witness]:
                self.refused(BadName, asked, name)
            self.refused(BadName, house.begin, name, call("a"))
        self.assertEqual(everything(house), ahead)

    def test_a_name_that_somebody_has_or_had(self):
        house = self.one_house()
        house.begin("cy", call("a"))
        house.drop("cy")
        for name in ["al", "bob", "cy"]:
            self.changes_nothing(house, BadName, house.begin, name, call("a"))

    def test_nobody_of_that_name(self):
        house = self.one_house()
        for name in ["zoe", "a", "b", "ala", "aa", "say", "abcdefgh"]:
            for asked in [house.step, house.drop, house.move, house.said_by, house.end_of, house.edition_of,
                          house.witness]:
                self.changes_nothing(house, Unknown, asked, name)

    def test_one_who_is_over(self):
        house = self.one_house()
        house.begin("cy", call("a"))
        house.drop("cy")
        for name in ["bob", "cy"]:
            for asked in [house.step, house.drop, house.move]:
                self.changes_nothing(house, Over, asked, name)
        self.to_the_end(house, "al")
        for asked in [house.step, house.drop, house.move]:
            self.changes_nothing(house, Over, asked, "al")

    def test_one_who_is_not(self):
        house = self.one_house()
        self.changes_nothing(house, Underway, house.witness, "al")
        self.assertEqual(house.witness("bob"), 0)

    def test_no_call(self):
        house = self.one_house()
        ahead = everything(house)
        for wrong in no_calls():
            self.refused(BadCall, house.begin, "cy", wrong)
        self.assertEqual(everything(house), ahead)
        house.begin("cy", call("a"))

    def test_no_changes(self):
        house = self.one_house()
        ahead = everything(house)
        for wrong in no_changes():
            for asked in [house.change, house.barring, house.wait, house.spread]:
                self.refused(BadChanges, asked, wrong)
        self.assertEqual(everything(house), ahead)

    def test_of_several_the_name_comes_first_then_the_call_then_the_room(self):
        house = self.one_house()
        for name in NAMES[2:]:
            house.begin(name, call("z"))
        ahead = everything(house)
        self.refused(TooMany, house.begin, "zoe", call("a"))
        for wrong in no_calls():
            self.refused(BadName, house.begin, "al", wrong)
            self.refused(BadName, house.begin, "Zoe", wrong)
            self.refused(BadCall, house.begin, "zoe", wrong)
        for name in NO_WORDS:
            self.refused(BadName, house.begin, name, None)
            self.refused(BadName, house.begin, name, call("a"))
        self.refused(BadName, house.begin, "al", call("a"))
        self.assertEqual(everything(house), ahead)

    def test_of_two_no_changes_come_ahead_of_the_room(self):
        house = opened([])
        for _ in range(39):
            house.spread([])
        ahead = everything(house)
        for wrong in no_changes():
            for asked in [house.change, house.wait, house.spread, house.barring]:
                self.refused(BadChanges, asked, wrong)
        self.assertEqual(everything(house), ahead)


class NewLists(Houses):

    BOOK = [("a", [SAY] + ask("b") + [SAY]), ("b", [SAY])]

    def test_the_book_that_it_was_opened_with_may_be_changed(self):
        book = copy.deepcopy(self.BOOK)
        house = opened(book)
        book[0][1].clear()
        book.clear()
        self.assertEqual(house.told_edition(0), self.BOOK)
        house.begin("al", call("a"))
        self.to_the_end(house, "al")
        self.assertEqual(house.said_by("al"), [0, 0, 0])

    def test_the_call_may_be_changed(self):
        house, heard = opened([("a", [HEAR, SAY, HEAR, SAY])]), [1, 2]
        house.begin("al", ("a", 0, heard, 9))
        house.step("al")
        self.assertEqual(heard, [1, 2])
        heard.clear()
        self.to_the_end(house, "al")
        self.assertEqual(house.said_by("al"), [1, 2])

    def test_the_changes_may_be_changed(self):
        for way in ["change", "spread", "wait"]:
            house, changes = opened(self.BOOK), [("b", [END]), ("c", [SAY])]
            {"change": house.change, "spread": house.spread, "wait": house.wait}[way](changes)
            changes[0][1].clear()
            changes[1][1].append(END)
            changes.clear()
            self.assertEqual(house.told_edition(1), [self.BOOK[0], ("b", [END]), ("c", [SAY])])
            house.begin("al", call("b"))
            self.assertEqual(house.views(), [("al", 1, [("b", [END])], [END])])

    def test_what_is_handed_in_is_not_changed(self):
        book, changes, one = copy.deepcopy(self.BOOK), [("c", [SAY]), ("b", None), ("a", [END])], call("a", 0, [1])
        house = opened(book)
        house.begin("al", one)
        house.barring(changes)
        house.wait(changes)
        house.change(changes)
        house.spread(changes)
        self.to_the_end(house, "al")
        self.assertEqual((book, changes, one),
                         (self.BOOK, [("c", [SAY]), ("b", None), ("a", [END])], call("a", 0, [1])))

    def test_the_kinds_that_are_told(self):
        house = self.house(self.BOOK, call("a"), call("z"))
        step = house.step("al")
        for told in [step, house.behind(), house.under_way(), house.names(), house.views(), house.said_by("al"),
                     house.told_edition(0), house.told_book(), house.barring([]), house.views()[0][2],
                     house.views()[0][3], house.views()[0][2][0][1]]:
            self.assertIs(type(told), list)
        for told in [house.end_of("al"), house.end_of("bob"), house.views()[0], house.views()[0][2][0],
                     house.told_book()[0], house.told_edition(0)[0]]:
            self.assertIs(type(told), tuple)
        for told in [house.newest(), house.waits(), house.edition_of("al"), house.witness("bob")]:
            self.assertIs(type(told), int)

    def test_what_is_told_may_be_changed(self):
        house = self.house(self.BOOK, call("a", 5), call("b", 6), call("z"))
        house.step("bob")
        house.step("al").append(50)
        house.spread([("c", [SAY])])
        house.wait([("a", []), ("b", [END])])
        self.assertEqual(house.waits(), 1)
        ahead = everything(house)
        for told in [house.behind(), house.under_way(), house.names(), house.said_by("al"), house.said_by("bob"),
                     house.told_book(), house.barring([("a", []), ("b", None)]), house.told_edition(0),
                     house.told_edition(1), house.views()]:
            self.assertTrue(told)
            told.clear()
        for told in [house.told_edition(0), house.told_edition(1), house.views()[0][2]]:
            for _, body in told:
                body.clear()
            told.clear()
        house.views()[0][3].clear()
        self.assertEqual(everything(house), ahead)
        self.to_the_end(house, "al")
        self.assertEqual(house.said_by("al"), [5, 5, 5])

    def test_papers_may_be_changed(self):
        house = self.house(self.BOOK, call("a", 5))
        for _ in range(2):
            paper = house.change([("a", []), ("b", [END])])
            self.assertEqual(paper.reasons, [("al", [("may", ["b"]), ("used", "a")])])
            paper.reasons[0][1][0][1].clear()
            paper.reasons[0][1].clear()
            paper.reasons.clear()
        for _ in range(2):
            paper = house.move("al")
            self.assertEqual(paper.witnesses, [("al", 0)])
            paper.witnesses.clear()
        house.spread([("a", []), ("b", [END])])
        for _ in range(2):
            paper = house.move("al")
            self.assertEqual(paper.reasons, [("al", [("may", ["b"]), ("used", "a")])])
            paper.reasons[0][1][0][1].clear()
            paper.reasons.clear()
        self.to_the_end(house, "al")
        self.assertEqual((house.said_by("al"), house.witness("al")), ([5, 5, 5], 0))

    def test_editions_that_share_bodies(self):
        house = opened(self.BOOK)
        house.spread([("c", [])])
        house.back()
        house.told_edition(0)[0][1].clear()
        house.told_edition(2)[1][1].clear()
        self.assertEqual([house.told_edition(count) for count in range(3)],
                         [self.BOOK, self.BOOK + [("c", [])], self.BOOK])


if __name__ == "__main__":
    unittest.main()
