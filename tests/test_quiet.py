"""Hidden, Shown and seen: what is unlike in two books and may be come upon from a word."""

import copy
import itertools
import random
import unittest

from midstride.errors import BadBook, BadWord
from midstride.plain import run
from midstride.quiet import Hidden, Quiet, Shown, seen
from tests.samples import (NO_WORDS, Refusing, WORDS, alike, ask, drawn_book, drawn_call, drawn_changes, leads, named,
                           no_books, reached)

SAY = ("say",)
END = ("end",)

FEW_BAD_BOOKS = [None, (), [("b", []), ("a", [])], [("a", None)]]


def words_in_a_row():
    """Hundreds of words, rising."""
    letters = "abcdefghijklmnopqrstuvwxyz"
    return [one + two for one in letters for two in letters]


class Quietness(Refusing):

    def rightly(self, one, other, word):
        """What is told of them, which is as it must be; it shows that itself, and the other sort shows nothing."""
        told = seen(one, other, word)
        if alike(one, other, reached(ask(word), one)):
            self.assertIs(type(told), Hidden)
        else:
            self.assertIs(type(told), Shown)
            self.assertTrue(leads(told.words, ask(word), one), told.words)
            self.assertFalse(alike(one, other, told.words[-1:]), told.words)
        self.assertIs(told.shows(one, other, word), True)
        self.assertIs(Hidden().shows(one, other, word), type(told) is Hidden)
        return told

    def hidden(self, one, other, word):
        self.assertIs(type(self.rightly(one, other, word)), Hidden)

    def shown(self, one, other, word):
        told = self.rightly(one, other, word)
        self.assertIs(type(told), Shown)
        return told.words


class Seen(Quietness):

    def test_the_classes(self):
        for kind in (Hidden, Shown):
            self.assertEqual(kind.__bases__, (Quiet,))
            self.assertIn("shows", vars(kind))
        self.assertIsInstance(Hidden(), Quiet)
        self.assertEqual(Shown(["a"]).words, ["a"])

    def test_the_word_itself(self):
        self.hidden([("a", [SAY])], [("a", [SAY])], "a")
        self.assertEqual(self.shown([("a", [SAY])], [("a", [END])], "a"), ["a"])
        self.assertEqual(self.shown([("a", [SAY])], [("a", [SAY, SAY])], "a"), ["a"])
        self.assertEqual(self.shown([("a", [("plus", 1)])], [("a", [("plus", 2)])], "a"), ["a"])

    def test_one_body_and_none(self):
        for body in [[], [SAY], ask("a")]:
            self.assertEqual(self.shown([("a", body)], [], "a"), ["a"])
            self.assertEqual(self.shown([], [("a", body)], "a"), ["a"])
            self.hidden([("a", body)], [("a", body)], "a")
        self.assertEqual(self.shown([("a", [])], [("a", [SAY])], "a"), ["a"])
        self.assertEqual(self.shown([("a", ask("b"))], [("a", ask("b")), ("b", [])], "a"), ["a", "b"])
        self.assertEqual(self.shown([("a", ask("b")), ("b", [])], [("a", ask("b"))], "a"), ["a", "b"])

    def test_a_word_without_a_body_in_either(self):
        for word in WORDS:
            self.hidden([], [], word)
            self.hidden([("b", [])], [("b", [SAY]), ("c", ask(word))], word)
        self.hidden([("a", ask("c"))], [("a", ask("c")), ("b", [])], "a")

    def test_what_is_unlike_but_cannot_be_come_upon(self):
        one = [("a", ask("b")), ("b", [SAY]), ("c", ask("a")), ("d", [SAY])]
        other = [("a", ask("b")), ("b", [SAY]), ("c", ask("a", "a")), ("e", [SAY])]
        for word in ["a", "b", "f"]:
            self.hidden(one, other, word)
        for word in ["c", "d", "e"]:
            self.assertEqual(self.shown(one, other, word), [word])

    def test_further_words(self):
        one = [("a", [SAY, ("ask", "b")]), ("b", [("odd", "c")]), ("c", [END, ("ask", "d")]), ("d", [])]
        self.hidden(one, copy.deepcopy(one), "a")
        self.assertEqual(self.shown(one, one[:3] + [("d", [SAY])], "a"), ["a", "b", "c", "d"])
        self.assertEqual(self.shown(one, one[:3], "c"), ["c", "d"])
        self.assertEqual(self.shown(one, one[:2] + [("c", [END]), ("d", [])], "a"), ["a", "b", "c"])

    def test_words_that_ask_one_another_in_rounds(self):
        one = [("a", ask("b")), ("b", ask("c")), ("c", ask("a"))]
        for word in "abc":
            self.hidden(one, copy.deepcopy(one), word)
        other = one[:2] + [("c", ask("b"))]
        self.assertEqual(self.shown(one, other, "a")[-1], "c")
        self.assertEqual(self.shown(one, other, "c"), ["c"])
        self.hidden([("a", ask("a"))], [("a", ask("a"))], "a")
        self.assertEqual(self.shown([("a", ask("a"))], [("a", ask("a", "a"))], "a"), ["a"])

    def test_a_word_that_may_be_used_by_the_second_book_alone(self):
        one, other = [("a", [SAY]), ("b", [SAY])], [("a", ask("b")), ("b", [END])]
        self.assertEqual(self.shown(one, other, "a"), ["a"])
        one, other = [("a", ask("b")), ("c", [SAY])], [("a", ask("b")), ("b", ask("c")), ("c", [])]
        self.assertEqual(self.shown(one, other, "a"), ["a", "b"])
        self.assertFalse(Shown(["a", "b", "c"]).shows(one, other, "a"))
        self.assertTrue(Shown(["a", "b", "c"]).shows(other, one, "a"))

    def test_of_one_book_twice(self):
        book = [("a", ask("b", "c")), ("b", ask("a"))]
        for word in "abcd":
            self.hidden(book, book, word)

    def test_long_books(self):
        words = words_in_a_row()
        one = [(word, ask(further)) for word, further in zip(words, words[1:])] + [(words[-1], [])]
        self.hidden(one, copy.deepcopy(one), words[0])
        last_unlike = one[:-1] + [(words[-1], [SAY])]
        self.assertEqual(self.shown(one, last_unlike, words[0]), words)
        self.assertEqual(self.shown(one, one[:-1], words[0]), words)
        self.assertEqual(self.shown(one, last_unlike, words[-1]), words[-1:])
        self.hidden(one, [(words[0], [])] + one[1:], words[1])
        self.assertTrue(Shown(words).shows(one, [], words[0]))
        self.assertFalse(Shown(words[:300] + words[301:]).shows(one, [], words[0]))

    def test_drawn_books(self):
        chance, sorts = random.Random(11), {Hidden: 0, Shown: 0}
        for _ in range(800):
            one = drawn_book(chance)
            bodies = dict(one) | dict(drawn_changes(chance))
            other = [(word, bodies[word]) for word in sorted(bodies) if bodies[word] is not None]
            for word in "abcde":
                sorts[type(self.rightly(one, other, word))] += 1
        self.assertGreater(min(sorts.values()), 500)

    def test_calls_of_a_word_where_hidden_is_told_run_alike(self):
        chance, many = random.Random(12), 0
        for _ in range(1500):
            one, call = drawn_book(chance), drawn_call(chance)
            bodies = dict(one) | dict(drawn_changes(chance))
            other = [(word, bodies[word]) for word in sorted(bodies) if bodies[word] is not None]
            if isinstance(seen(one, other, call[0]), Hidden):
                many += 1
                self.assertEqual(run(one, call), run(other, call))
        self.assertGreater(many, 300)


class Shows(Quietness):

    ONE = [("a", ask("b", "c")), ("b", [SAY, ("odd", "a"), ("ask", "d")]), ("c", ask("e")), ("d", [SAY]), ("e", [])]
    OTHER = [("a", ask("b", "c")), ("b", [SAY, ("odd", "a"), ("ask", "d")]), ("c", ask("d")), ("d", [END])]

    def shows(self, row, word):
        return Shown(row).shows(self.ONE, self.OTHER, word)

    def test_the_shortest_row_and_longer_ones(self):
        for row in [["a", "c"], ["a", "b", "d"], ["a", "c", "e"], ["a", "b", "a", "c"], ["a", "b", "a", "b", "d"],
                    ["a", "b"] * 50 + ["a", "c", "e"]]:
            self.assertIs(self.shows(row, "a"), True)

    def test_one_word(self):
        for word in "cde":
            self.assertIs(self.shows([word], word), True)
        for word in "abf":
            self.assertIs(self.shows([word], word), False)

    def test_an_empty_row(self):
        for word in "abcdef":
            self.assertIs(self.shows([], word), False)

    def test_rows_that_begin_with_another_word(self):
        for row in [["b", "d"], ["c"], ["b", "a", "c"], ["e"], ["d", "a", "c"], ["f", "a", "c"]]:
            self.assertIs(self.shows(row, "a"), False)

    def test_rows_with_a_step_that_the_first_book_does_not_name(self):
        for row in [["a", "d"], ["a", "e"], ["a", "b", "c"], ["a", "b", "e"], ["a", "c", "d"], ["a", "a", "c"],
                    ["a", "c", "e", "d"], ["a", "f", "d"], ["a", "c", "c"], ["a", "b", "d", "d"], ["a", "d", "b", "d"]]:
            self.assertIs(self.shows(row, "a"), False)

    def test_rows_whose_last_word_is_alike_in_both(self):
        for row in [["a"], ["a", "b"], ["a", "b", "a"], ["a", "b", "a", "b"]]:
            self.assertIs(self.shows(row, "a"), False)

    def test_a_row_that_goes_on_from_an_unlike_word_by_the_first_book(self):
        one, other = [("a", ask("b")), ("b", ask("c"))], [("a", ask("b")), ("c", [])]
        self.assertIs(Shown(["a", "b", "c"]).shows(one, other, "a"), True)
        self.assertIs(Shown(["a", "b", "c"]).shows(other, one, "a"), False)
        self.assertIs(Shown(["a", "b"]).shows(other, one, "a"), True)

    def test_every_short_row(self):
        for many in range(4):
            for row in itertools.product("abcdef", repeat=many):
                for word in "abf":
                    right = leads(row, ask(word), self.ONE) and not alike(self.ONE, self.OTHER, row[-1:])
                    self.assertIs(self.shows(list(row), word), right)

    def test_drawn_rows(self):
        chance, right_ones = random.Random(13), 0
        for _ in range(2000):
            one, other, word = drawn_book(chance), drawn_book(chance), chance.choice("abcde")
            row = [word]
            while chance.randrange(3):
                further = sorted(named(dict(one).get(row[-1], []))) + ["e"]
                row.append(chance.choice(further))
            right = leads(row, ask(word), one) and not alike(one, other, row[-1:])
            self.assertIs(Shown(row).shows(one, other, word), right)
            right_ones += right
        self.assertTrue(500 < right_ones < 1800, right_ones)

    def test_a_told_paper_asked_of_other_books(self):
        told = seen(self.ONE, self.OTHER, "c")
        self.assertIs(told.shows(self.ONE, self.OTHER, "c"), True)
        self.assertIs(told.shows(self.ONE, self.ONE, "c"), False)
        self.assertIs(told.shows(self.ONE, self.OTHER, "a"), False)
        self.assertIs(told.shows([], [], "c"), False)
        self.assertIs(told.shows(self.OTHER, self.ONE, "c"), True)
        quiet = seen(self.ONE, self.ONE, "a")
        self.assertIs(quiet.shows(self.ONE, self.ONE, "a"), True)
        self.assertIs(quiet.shows(self.ONE, self.OTHER, "a"), False)
        self.assertIs(quiet.shows(self.ONE, self.OTHER, "f"), True)
        self.assertIs(quiet.shows(self.ONE, [], "e"), False)
        self.assertIs(quiet.shows([], [], "e"), True)

    def test_by_the_field_as_it_stands_then(self):
        paper = Shown(["a"])
        self.assertIs(paper.shows(self.ONE, self.OTHER, "a"), False)
        paper.words.append("c")
        self.assertIs(paper.shows(self.ONE, self.OTHER, "a"), True)
        paper.words.clear()
        self.assertIs(paper.shows(self.ONE, self.OTHER, "a"), False)
        paper.words = ["a", "b", "d"]
        self.assertIs(paper.shows(self.ONE, self.OTHER, "a"), True)

    def test_nothing_is_changed_by_asking(self):
        one, other, paper = copy.deepcopy(self.ONE), copy.deepcopy(self.OTHER), Shown(["a", "c"])
        for _ in range(2):
            paper.shows(one, other, "a")
            Hidden().shows(one, other, "a")
            seen(one, other, "a")
            self.assertEqual((one, other, paper.words), (self.ONE, self.OTHER, ["a", "c"]))


class NewLists(Quietness):

    def test_the_list_that_it_was_made_of_may_be_changed(self):
        row = ["a", "b"]
        paper = Shown(row)
        row.clear()
        self.assertEqual(paper.words, ["a", "b"])
        paper.words.append("c")
        self.assertEqual(row, [])

    def test_what_is_told_may_be_changed_and_asked_again(self):
        one, other = [("a", ask("b"))], [("a", ask("b")), ("b", [])]
        for _ in range(2):
            told = seen(one, other, "a")
            self.assertIs(type(told.words), list)
            self.assertEqual(told.words, ["a", "b"])
            told.words.clear()

    def test_the_books_may_be_changed_behind_it(self):
        one, other = [("a", ask("b"))], [("a", ask("b")), ("b", [])]
        told = seen(one, other, "a")
        other[0][1].clear()
        other.clear()
        one.clear()
        self.assertEqual(told.words, ["a", "b"])
        self.assertIs(told.shows(one, other, "a"), False)
        self.assertIs(type(seen(one, other, "a")), Hidden)


class NotSeen(Quietness):

    def test_no_book(self):
        for book in no_books():
            self.refused(BadBook, seen, book, [], "a")
            self.refused(BadBook, seen, [], book, "a")
            self.refused(BadBook, seen, book, book, "a")

    def test_no_word(self):
        for word in NO_WORDS:
            self.refused(BadWord, seen, [], [], word)
            self.refused(BadWord, seen, [("a", ask("b"))], [("b", [])], word)

    def test_of_several_refusals_the_book_comes_first(self):
        for word in NO_WORDS:
            for book in FEW_BAD_BOOKS:
                self.refused(BadBook, seen, book, [], word)
                self.refused(BadBook, seen, [], book, word)
                self.refused(BadBook, seen, book, book, word)


if __name__ == "__main__":
    unittest.main()
