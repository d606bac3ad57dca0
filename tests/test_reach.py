"""What steps may use by a book, the shortest rows of words, and what is refused."""

import copy
import random
import unittest

from midstride.errors import BadBody, BadBook, BadWord
from midstride.reach import chain, may_use
from tests.samples import (BODIES, NO_WORDS, Refusing, STEPS, ask, drawn_book, drawn_step, leads, named, no_bodies,
                           no_books)

SAY = ("say",)
END = ("end",)

WRONG_BODIES = [None] + no_bodies()


def distances(steps, book):
    """How long a shortest row to each word is: found by letting all rows grow together by a word at a time."""
    far, edge, length = {}, named(steps), 1
    while edge - set(far):
        for word in edge:
            far.setdefault(word, length)
        edge = {further for word, body in book if word in far for further in named(body)}
        length += 1
    return far


class Reach(Refusing):

    def reaches(self, steps, book, words):
        """Just these words may be used, and a shortest row leads to each of them."""
        self.assertEqual(may_use(steps, book), words)
        far = distances(steps, book)
        self.assertEqual(sorted(far), words)
        for word in words:
            row = chain(steps, book, word)
            self.assertTrue(leads(row, steps, book))
            self.assertEqual(row[-1], word)
            self.assertEqual(len(row), far[word])
        for word in ["a", "b", "c", "d", "e", "zzzzzzzz", "say", "ask"]:
            if word not in words:
                self.assertEqual(chain(steps, book, word), [])

    def test_steps_that_name_nothing(self):
        book = [("a", ask("b")), ("say", [SAY])]
        for steps in [[], [SAY], [END], [("hear",)], [("plus", 1)], [("times", 0)], [("turn", -1)], [SAY] * 9]:
            self.reaches(steps, book, [])
            self.reaches(steps, [], [])

    def test_each_sort_of_step(self):
        for step in STEPS:
            self.reaches([step], [], sorted(named([step])))
        for steps in BODIES:
            self.reaches(steps, [], sorted(named(steps)))

    def test_words_without_a_body(self):
        self.reaches(ask("a"), [], ["a"])
        self.assertEqual(chain(ask("a"), [], "a"), ["a"])
        self.reaches(ask("a"), [("b", ask("c"))], ["a"])
        self.reaches(ask("a"), [("a", ask("b"))], ["a", "b"])

    def test_words_named_by_odd_alone(self):
        book = [("a", [("odd", "b")]), ("b", [SAY, ("odd", "c")])]
        self.reaches([("odd", "a")], book, ["a", "b", "c"])
        self.assertEqual(chain([("odd", "a")], book, "c"), ["a", "b", "c"])

    def test_words_that_ask_themselves(self):
        self.reaches(ask("a"), [("a", ask("a"))], ["a"])
        self.assertEqual(chain(ask("a"), [("a", ask("a"))], "a"), ["a"])

    def test_words_that_ask_one_another_in_rounds(self):
        book = [("a", ask("b")), ("b", ask("c")), ("c", ask("a"))]
        for first in "abc":
            self.reaches(ask(first), book, ["a", "b", "c"])
        self.assertEqual(chain(ask("b"), book, "a"), ["b", "c", "a"])
        self.assertEqual(chain(ask("a"), book, "a"), ["a"])

    def test_steps_behind_an_end(self):
        book = [("a", [END, ("ask", "b")]), ("b", [SAY, END, END, ("odd", "c")])]
        self.reaches([END, ("ask", "a")], book, ["a", "b", "c"])

    def test_words_that_cannot_be_reached(self):
        book = [("a", ask("b")), ("b", []), ("c", ask("a", "b", "d")), ("d", ask("c"))]
        self.reaches(ask("a"), book, ["a", "b"])
        self.reaches(ask("b"), book, ["b"])
        self.reaches(ask("d"), book, ["a", "b", "c", "d"])

    def test_the_words_rise_each_once(self):
        book = [("b", ask("zz", "a", "ab")), ("z", ask("b", "b", "aa"))]
        self.reaches(ask("z", "b", "z", "a", "c"), book, ["a", "aa", "ab", "b", "c", "z", "zz"])

    def test_a_shortest_row_of_two_is_told(self):
        long_first = [("a", ask("b", "d")), ("b", ask("c")), ("c", ask("d")), ("d", ask("e"))]
        self.assertEqual(chain(ask("a"), long_first, "d"), ["a", "d"])
        self.assertEqual(chain(ask("a"), long_first, "e"), ["a", "d", "e"])
        self.assertEqual(chain(ask("b", "a"), long_first, "e"), ["a", "d", "e"])
        self.assertEqual(chain(ask("a", "b", "d"), long_first, "e"), ["d", "e"])
        self.assertEqual(chain(ask("a", "b", "e"), long_first, "e"), ["e"])
        self.reaches(ask("b", "a"), long_first, ["a", "b", "c", "d", "e"])

    def test_a_row_as_long_as_the_nearer_first_word_allows(self):
        book = [("a", ask("b")), ("b", ask("e")), ("c", ask("d")), ("d", ask("b", "e"))]
        self.assertIn(chain(ask("c", "a"), book, "e"), [["a", "b", "e"], ["c", "d", "e"]])
        self.assertEqual(chain(ask("c", "b"), book, "e"), ["b", "e"])

    def test_long_books(self):
        letters = "abcdefghijklmnopqrstuvwxyz"
        words = [one + two for one in letters for two in letters]
        book = [(word, ask(further)) for word, further in zip(words, words[1:] + words[:1])]
        self.assertEqual(may_use(ask("aa"), book), words)
        self.assertEqual(chain(ask("aa"), book, "zz"), words)
        self.assertEqual(chain(ask("ab"), book, "aa"), words[1:] + words[:1])
        self.assertEqual(chain(ask("aa", "zy"), book, "zz"), ["zy", "zz"])
        turned = [(word, ask(further)) for further, word in zip(words, words[1:])]
        self.assertEqual(chain(ask("zz"), turned, "aa"), words[::-1])
        self.assertEqual(chain(ask("aa"), turned, "zz"), [])

    def test_drawn_books(self):
        chance = random.Random(9)
        for _ in range(1500):
            book, steps = drawn_book(chance), [drawn_step(chance) for _ in range(chance.randrange(4))]
            self.reaches(steps, book, sorted(distances(steps, book)))


class NewLists(Refusing):

    BOOK = [("a", ask("b", "c")), ("b", ask("d")), ("d", [])]

    def test_lists_are_told(self):
        self.assertIs(type(may_use(ask("a"), self.BOOK)), list)
        self.assertIs(type(chain(ask("a"), self.BOOK, "d")), list)
        self.assertIs(type(chain(ask("a"), self.BOOK, "z")), list)

    def test_what_is_handed_in_stays_and_what_is_told_may_be_changed(self):
        book, steps = copy.deepcopy(self.BOOK), ask("a")
        for _ in range(2):
            words, row, no_row = may_use(steps, book), chain(steps, book, "d"), chain(steps, book, "z")
            self.assertEqual((words, row, no_row), (["a", "b", "c", "d"], ["a", "b", "d"], []))
            for told in [words, row, no_row]:
                told.append("x")
            self.assertEqual(book, self.BOOK)
            self.assertEqual(steps, ask("a"))

    def test_what_was_told_stays(self):
        book, steps = copy.deepcopy(self.BOOK), ask("a")
        words, row = may_use(steps, book), chain(steps, book, "d")
        book[0][1].clear()
        book.clear()
        steps.clear()
        self.assertEqual((words, row), (["a", "b", "c", "d"], ["a", "b", "d"]))

    def test_books_and_steps_changed_in_place_are_told_anew(self):
        book, steps = copy.deepcopy(self.BOOK), ask("a")
        self.assertEqual(may_use(steps, book), ["a", "b", "c", "d"])
        book[1][1].clear()
        self.assertEqual(may_use(steps, book), ["a", "b", "c"])
        self.assertEqual(chain(steps, book, "d"), [])
        steps.append(("ask", "d"))
        self.assertEqual(chain(steps, book, "d"), ["d"])
        steps.append(None)
        self.refused(BadBody, may_use, steps, book)
        self.refused(BadBody, chain, steps, book, "d")


class NoReach(Refusing):

    def test_no_body(self):
        for steps in WRONG_BODIES:
            self.refused(BadBody, may_use, steps, [])
            self.refused(BadBody, chain, steps, [], "a")

    def test_no_book(self):
        for book in no_books():
            self.refused(BadBook, may_use, [], book)
            self.refused(BadBook, chain, [], book, "a")

    def test_no_word(self):
        for word in NO_WORDS:
            self.refused(BadWord, chain, [], [], word)
            self.refused(BadWord, chain, ask("a"), [("a", ask("b"))], word)

    def test_of_several_refusals_the_body_comes_first(self):
        for steps in WRONG_BODIES:
            for book in [None, (), [("b", []), ("a", [])], [("a", None)]]:
                self.refused(BadBody, may_use, steps, book)
                self.refused(BadBody, chain, steps, book, "a")
                self.refused(BadBody, chain, steps, book, "A")
            self.refused(BadBody, chain, steps, [], None)

    def test_of_book_and_word_the_book_comes_first(self):
        for book in [None, (), [("b", []), ("a", [])], [("a", None)]]:
            for word in NO_WORDS:
                self.refused(BadBook, chain, [], book, word)

    def test_what_is_refused_changes_nothing(self):
        steps, book = ask("a") + [("walk",)], [("b", ask("a")), ("a", [])]
        self.refused(BadBody, may_use, steps, book)
        self.refused(BadBook, may_use, ask("a"), book)
        self.refused(BadBook, chain, ask("a"), book, "A")
        self.assertEqual(steps, ask("a") + [("walk",)])
        self.assertEqual(book, [("b", ask("a")), ("a", [])])


if __name__ == "__main__":
    unittest.main()
