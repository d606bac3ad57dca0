"""What told and exchanged tell, and what they refuse."""

import copy
import unittest

from midstride.errors import BadBook, BadChanges, BadWord
from midstride.steps import exchanged, told
from tests.samples import BODIES, NO_WORDS, Refusing, STEPS, WORDS, no_bodies, no_books, no_changes

SAY = [("say",)]
END = [("end",)]
HEAR = [("hear",), ("ask", "d")]


def small_book():
    """Three words with room ahead of, between and behind them; the middle body is empty."""
    return [("b", list(SAY)), ("d", []), ("f", list(HEAR))]


class Told(Refusing):

    def test_a_word_with_steps(self):
        self.assertEqual(told(small_book(), "b"), [("say",)])
        self.assertEqual(told(small_book(), "f"), [("hear",), ("ask", "d")])

    def test_a_word_with_an_empty_body(self):
        self.assertEqual(told(small_book(), "d"), [])

    def test_a_word_that_stands_in_no_pair(self):
        for word in ["a", "c", "e", "g", "bb", "ba", "abcdefgh"]:
            self.assertIsNone(told(small_book(), word))

    def test_an_empty_book(self):
        for word in WORDS:
            self.assertIsNone(told([], word))

    def test_each_sort_of_step(self):
        for step in STEPS:
            with self.subTest(step=step):
                self.assertEqual(told([("a", [step])], "a"), [step])

    def test_every_number_of_a_step(self):
        for name in ["plus", "times", "turn"]:
            for part in range(-99, 100):
                self.assertEqual(told([("a", [(name, part)])], "a"), [(name, part)])

    def test_bodies_of_every_length(self):
        for many in range(10):
            self.assertEqual(told([("a", [("say",)] * many)], "a"), [("say",)] * many)

    def test_words_of_every_length(self):
        book = [("a" * many, [("plus", many)]) for many in range(1, 9)]
        for many in range(1, 9):
            self.assertEqual(told(book, "a" * many), [("plus", many)])

    def test_every_letter(self):
        letters = "abcdefghijklmnopqrstuvwxyz"
        book = [(letter, [("ask", letter)]) for letter in letters]
        for letter in letters:
            self.assertEqual(told(book, letter), [("ask", letter)])

    def test_a_step_may_name_a_word_without_body(self):
        self.assertEqual(told([("a", [("odd", "b")])], "a"), [("odd", "b")])

    def test_a_book_of_many_words(self):
        letters = "abcdefghijklmnopqrstuvwxyz"
        book = [(one + two + three, [("ask", one)]) for one in letters for two in letters for three in letters]
        self.assertEqual(told(book, "mmm"), [("ask", "m")])
        self.assertEqual(exchanged(book, [("mmm", None), ("mm", [])]),
                         sorted([pair for pair in book if pair[0] != "mmm"] + [("mm", [])]))

    def test_no_book(self):
        for book in no_books():
            self.refused(BadBook, told, book, "a")

    def test_no_word(self):
        for word in NO_WORDS:
            self.refused(BadWord, told, small_book(), word)
            self.refused(BadWord, told, [], word)

    def test_of_two_refusals_the_book_comes_first(self):
        for book in [None, (), [("b", []), ("a", [])], [("a", None)]]:
            for word in NO_WORDS:
                self.refused(BadBook, told, book, word)


class Exchanged(Refusing):

    def test_no_changes(self):
        self.assertEqual(exchanged(small_book(), []), small_book())
        self.assertEqual(exchanged([], []), [])

    def test_a_body_in_the_place_of_another(self):
        self.assertEqual(exchanged(small_book(), [("b", END)]), [("b", END), ("d", []), ("f", HEAR)])
        self.assertEqual(exchanged(small_book(), [("d", END)]), [("b", SAY), ("d", END), ("f", HEAR)])
        self.assertEqual(exchanged(small_book(), [("f", [])]), [("b", SAY), ("d", []), ("f", [])])

    def test_each_body(self):
        for body in BODIES:
            self.assertEqual(exchanged([("a", SAY)], [("a", body)]), [("a", body)])
            self.assertEqual(exchanged([("a", body)], [("b", body)]), [("a", body), ("b", body)])

    def test_a_body_exchanged_for_itself(self):
        self.assertEqual(exchanged(small_book(), [("b", SAY)]), small_book())

    def test_a_new_word_ahead(self):
        self.assertEqual(exchanged(small_book(), [("a", END)]), [("a", END), ("b", SAY), ("d", []), ("f", HEAR)])

    def test_a_new_word_between(self):
        self.assertEqual(exchanged(small_book(), [("c", END)]), [("b", SAY), ("c", END), ("d", []), ("f", HEAR)])

    def test_a_new_word_behind(self):
        self.assertEqual(exchanged(small_book(), [("ff", [])]), [("b", SAY), ("d", []), ("f", HEAR), ("ff", [])])

    def test_a_new_word_in_an_empty_book(self):
        for word in WORDS:
            self.assertEqual(exchanged([], [(word, SAY)]), [(word, SAY)])

    def test_none_for_a_word_that_is_there(self):
        self.assertEqual(exchanged(small_book(), [("b", None)]), [("d", []), ("f", HEAR)])
        self.assertEqual(exchanged(small_book(), [("d", None)]), [("b", SAY), ("f", HEAR)])
        self.assertEqual(exchanged(small_book(), [("f", None), ("b", None), ("d", None)]), [])

    def test_none_for_a_word_that_is_not_there(self):
        for word in ["a", "c", "g", "bb"]:
            self.assertEqual(exchanged(small_book(), [(word, None)]), small_book())
        self.assertEqual(exchanged([], [("a", None)]), [])

    def test_a_body_that_is_taken_away_is_told_no_more(self):
        self.assertIsNone(told(exchanged(small_book(), [("b", None)]), "b"))
        self.assertEqual(told(exchanged(small_book(), [("b", [])]), "b"), [])

    def test_changes_in_any_turn(self):
        changes = [("g", SAY), ("b", None), ("a", []), ("c", END), ("f", [])]
        behind = [("a", []), ("c", END), ("d", []), ("f", []), ("g", SAY)]
        for at in range(len(changes)):
            turned = changes[at:] + changes[:at]
            self.assertEqual(exchanged(small_book(), turned), behind)
            self.assertEqual(exchanged(small_book(), turned[::-1]), behind)

    def test_changes_one_behind_another(self):
        first = exchanged(small_book(), [("b", END), ("c", SAY)])
        second = exchanged(first, [("c", None), ("a", SAY)])
        third = exchanged(second, [("b", None), ("c", [])])
        self.assertEqual(first, [("b", END), ("c", SAY), ("d", []), ("f", HEAR)])
        self.assertEqual(second, [("a", SAY), ("b", END), ("d", []), ("f", HEAR)])
        self.assertEqual(third, [("a", SAY), ("c", []), ("d", []), ("f", HEAR)])

    def test_the_words_rise_each_once(self):
        book = [("ab", []), ("b", []), ("ba", []), ("z", [])]
        behind = exchanged(book, [("zz", []), ("b", SAY), ("abc", []), ("aa", []), ("a", []), ("bab", [])])
        words = [word for word, body in behind]
        self.assertEqual(words, ["a", "aa", "ab", "abc", "b", "ba", "bab", "z", "zz"])

    def test_a_list_of_tuples_of_a_text_and_a_list_is_told(self):
        behind = exchanged(small_book(), [("a", SAY)])
        self.assertIs(type(behind), list)
        for pair in behind:
            self.assertIs(type(pair), tuple)
            self.assertIs(type(pair[1]), list)

    def test_no_book(self):
        for book in no_books():
            self.refused(BadBook, exchanged, book, [])

    def test_no_list_of_changes(self):
        for changes in no_changes():
            self.refused(BadChanges, exchanged, small_book(), changes)
            self.refused(BadChanges, exchanged, [], changes)

    def test_wrong_bodies_for_words_that_are_there(self):
        for body in no_bodies():
            self.refused(BadChanges, exchanged, [("a", SAY)], [("a", body)])

    def test_of_two_refusals_the_book_comes_first(self):
        for book in [None, (), [("b", []), ("a", [])], [("a", None)]]:
            for changes in [None, (), [("a", [("walk",)])], [("a", None), ("a", None)], [("A", [])]]:
                self.refused(BadBook, exchanged, book, changes)


class NewLists(Refusing):

    def test_told_leaves_the_book_as_it_was(self):
        book = small_book()
        told(book, "b")
        told(book, "c")
        self.assertEqual(book, small_book())

    def test_what_told_tells_may_be_changed(self):
        book = small_book()
        for word, body in small_book():
            told(book, word).append(("end",))
            self.assertEqual(book, small_book())
            self.assertEqual(told(book, word), body)

    def test_what_was_told_stays(self):
        book = small_book()
        before = told(book, "b")
        book[0][1].append(("end",))
        self.assertEqual(before, SAY)
        book.clear()
        self.assertEqual(before, SAY)

    def test_exchanged_leaves_what_is_handed_in_as_it_was(self):
        book, changes = small_book(), [("g", list(SAY)), ("b", None), ("d", list(END))]
        exchanged(book, changes)
        self.assertEqual(book, small_book())
        self.assertEqual(changes, [("g", SAY), ("b", None), ("d", END)])

    def test_what_exchanged_tells_may_be_changed(self):
        for changes in [[], [("d", list(END)), ("a", list(SAY))], [("b", None)]]:
            book, kept = small_book(), copy.deepcopy(changes)
            behind = exchanged(book, changes)
            before = copy.deepcopy(behind)
            for word, body in behind:
                body.append(("hear",))
            behind.append(("z", []))
            self.assertEqual(book, small_book())
            self.assertEqual(changes, kept)
            self.assertEqual(exchanged(book, changes), before)

    def test_what_was_exchanged_stays(self):
        book, changes = small_book(), [("d", list(END)), ("a", list(SAY))]
        behind = exchanged(book, changes)
        book[0][1].append(("hear",))
        changes[0][1].clear()
        changes[1][1].append(("hear",))
        book.clear()
        changes.clear()
        self.assertEqual(behind, [("a", SAY), ("b", SAY), ("d", END), ("f", HEAR)])

    def test_one_body_under_two_words_is_told_as_two(self):
        body = list(SAY)
        behind = exchanged([("a", body)], [("b", body)])
        behind[0][1].append(("end",))
        self.assertEqual(behind[1], ("b", SAY))
        self.assertEqual(body, SAY)

    def test_a_book_changed_in_place_is_told_anew(self):
        book = small_book()
        self.assertEqual(told(book, "b"), SAY)
        book[0][1].append(("end",))
        self.assertEqual(told(book, "b"), [("say",), ("end",)])
        self.assertEqual(exchanged(book, [])[0], ("b", [("say",), ("end",)]))
        book[0] = ("a", [])
        self.assertIsNone(told(book, "b"))
        self.assertEqual(told(book, "a"), [])
        book.append(("a", []))
        self.refused(BadBook, told, book, "a")

    def test_changes_changed_in_place_are_made_anew(self):
        changes = [("a", list(SAY))]
        self.assertEqual(exchanged([], changes), [("a", SAY)])
        changes[0][1].clear()
        self.assertEqual(exchanged([], changes), [("a", [])])
        changes.append(("a", None))
        self.refused(BadChanges, exchanged, [], changes)

    def test_what_is_refused_changes_nothing(self):
        book, changes = small_book(), [("b", list(END)), ("c", [("walk",)])]
        self.refused(BadChanges, exchanged, book, changes)
        self.assertEqual(book, small_book())
        self.assertEqual(changes, [("b", END), ("c", [("walk",)])])
        wrong = [("b", list(SAY)), ("a", [])]
        self.refused(BadBook, exchanged, wrong, [("b", None)])
        self.refused(BadBook, told, wrong, "b")
        self.assertEqual(wrong, [("b", SAY), ("a", [])])


if __name__ == "__main__":
    unittest.main()
