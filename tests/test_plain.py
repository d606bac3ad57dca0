"""What plain runs say, how they end, how many steps they take and what they use."""

import copy
import random
import unittest

from midstride.errors import BadBook, BadCall
from midstride.plain import run, steps_of, used
from tests.samples import HUGE, Refusing, drawn_book, drawn_call, no_books, no_calls

SAY = ("say",)
HEAR = ("hear",)
END = ("end",)


def reference(book, call):
    """What is said, the end, the count of steps and what is used: over one flat row of steps that are left.

    Each step stands there with the count of the body that it comes from.
    """
    bodies = dict(book)
    word, hand, heard, strength = call
    said, uses, left, taken, bodies_begun, heard_so_far = [], [], [], 0, 0, 0
    to_use, end = word, None
    while True:
        if to_use is not None:
            body = bodies.get(to_use)
            if to_use not in [other for other, _ in uses]:
                uses.append((to_use, body))
            if body is None:
                end = ("lost", to_use)
            else:
                bodies_begun += 1
                left = [(bodies_begun, step) for step in body] + left
        if end is None and not left:
            end = ("done", hand)
        if end is None and taken == strength:
            end = ("spent",)
        if end is not None:
            return said, end, taken, uses
        (of_body, step), left, to_use = left[0], left[1:], None
        taken += 1
        if step == SAY:
            said.append(hand)
        if step == HEAR:
            if heard_so_far == len(heard):
                end = ("deaf",)
            else:
                hand = heard[heard_so_far]
                heard_so_far += 1
        if step == END:
            left = [(other, later) for other, later in left if other != of_body]
        if step[0] == "plus":
            hand += step[1]
        if step[0] == "times":
            hand *= step[1]
        if step[0] == "turn":
            hand = step[1] - hand
        if step[0] == "ask" or step[0] == "odd" and abs(hand) % 2:
            to_use = step[1]


class PlainRuns(Refusing):

    def goes(self, book, call, said, end, taken, words):
        """What is told of the call by all three; the words are those it uses, in turn."""
        self.assertEqual(run(book, call), (said, end))
        self.assertEqual(steps_of(book, call), taken)
        self.assertEqual(used(book, call), [(word, dict(book).get(word)) for word in words])

    def hand_behind(self, steps, in_hand, heard=()):
        """The number in hand behind the steps."""
        said, end = run([("a", steps)], ("a", in_hand, list(heard), 120))
        self.assertEqual(said, [])
        self.assertEqual(end[0], "done")
        return end[1]


class EachStep(PlainRuns):

    def test_say(self):
        self.goes([("a", [SAY])], ("a", 7, [], 1), [7], ("done", 7), 1, ["a"])
        self.goes([("a", [SAY, SAY])], ("a", -7, [], 2), [-7, -7], ("done", -7), 2, ["a"])

    def test_plus(self):
        for n, behind in [(5, 12), (-5, 2), (0, 7), (99, 106), (-99, -92)]:
            self.assertEqual(self.hand_behind([("plus", n)], 7), behind)

    def test_times(self):
        for n, behind in [(5, 35), (-5, -35), (0, 0), (1, 7), (-1, -7), (99, 693), (-99, -693)]:
            self.assertEqual(self.hand_behind([("times", n)], 7), behind)

    def test_turn(self):
        for n, behind in [(5, -2), (-5, -12), (0, -7), (7, 0), (99, 92), (-99, -106)]:
            self.assertEqual(self.hand_behind([("turn", n)], 7), behind)
        self.assertEqual(self.hand_behind([("turn", 5)], -7), 12)

    def test_hear(self):
        self.assertEqual(self.hand_behind([HEAR], 7, [3]), 3)
        self.assertEqual(self.hand_behind([HEAR, HEAR], 7, [3, -4]), -4)
        self.goes([("a", [HEAR, SAY, HEAR, SAY])], ("a", 7, [3, -4], 9), [3, -4], ("done", -4), 4, ["a"])

    def test_heard_numbers_left_over(self):
        self.assertEqual(self.hand_behind([HEAR], 7, [3, 4, 5]), 3)
        self.assertEqual(self.hand_behind([], 7, range(20)), 7)

    def test_all_twenty_heard_numbers_in_turn(self):
        book = [("a", [HEAR, SAY, ("ask", "a")])]
        heard = [number * number - 50 for number in range(20)]
        self.goes(book, ("a", 0, heard, 120), heard, ("deaf",), 61, ["a"])

    def test_end_in_the_first_body(self):
        self.goes([("a", [END])], ("a", 7, [], 9), [], ("done", 7), 1, ["a"])
        self.goes([("a", [SAY, END, SAY])], ("a", 7, [], 9), [7], ("done", 7), 2, ["a"])
        self.goes([("a", [END, ("ask", "b")])], ("a", 7, [], 9), [], ("done", 7), 1, ["a"])

    def test_end_in_a_body_that_another_one_used(self):
        book = [("a", [("ask", "b"), SAY]), ("b", [("plus", 1), END, ("plus", 50)])]
        self.goes(book, ("a", 7, [], 9), [8], ("done", 8), 4, ["a", "b"])

    def test_end_ends_one_body_alone(self):
        book = [("a", [("ask", "b"), SAY]), ("b", [("ask", "c"), ("plus", 10)]), ("c", [END, ("plus", 1)])]
        self.goes(book, ("a", 0, [], 9), [10], ("done", 10), 5, ["a", "b", "c"])

    def test_end_in_a_body_within_itself(self):
        book = [("a", [("plus", 1), ("odd", "a"), SAY, END, ("plus", 50)])]
        self.goes(book, ("a", 0, [], 9), [2, 2], ("done", 2), 8, ["a"])

    def test_ask(self):
        book = [("a", [("ask", "b"), SAY]), ("b", [("plus", 1)])]
        self.goes(book, ("a", 7, [], 9), [8], ("done", 8), 3, ["a", "b"])

    def test_ask_an_empty_body(self):
        book = [("a", [("ask", "b"), SAY]), ("b", [])]
        self.goes(book, ("a", 7, [], 9), [7], ("done", 7), 2, ["a", "b"])

    def test_ask_as_the_last_step(self):
        book = [("a", [SAY, ("ask", "b")]), ("b", [("plus", 1), ("ask", "c")]), ("c", [SAY])]
        self.goes(book, ("a", 7, [], 9), [7, 8], ("done", 8), 5, ["a", "b", "c"])
        self.goes([("a", [("ask", "b")]), ("b", [])], ("a", 7, [], 1), [], ("done", 7), 1, ["a", "b"])

    def test_bodies_go_on_behind_those_that_they_used(self):
        book = [("a", [("plus", 1), ("ask", "b"), SAY, ("ask", "b"), SAY]), ("b", [("times", 2), ("ask", "c"), SAY]),
                ("c", [("plus", 3)])]
        self.goes(book, ("a", 0, [], 99), [5, 5, 13, 13], ("done", 13), 13, ["a", "b", "c"])

    def test_odd(self):
        book = [("a", [("odd", "b"), SAY]), ("b", [("times", 10)])]
        for number in [1, 3, -1, -3, 99, -99, HUGE + 1, -HUGE - 1, 1 - HUGE]:
            self.goes(book, ("a", number, [], 9), [number * 10], ("done", number * 10), 3, ["a", "b"])
        for number in [0, 2, -2, 4, -4, 98, -98, HUGE, -HUGE]:
            self.goes(book, ("a", number, [], 9), [number], ("done", number), 2, ["a"])

    def test_numbers_of_any_size(self):
        for number in [HUGE, -HUGE]:
            self.goes([("a", [SAY])], ("a", number, [], 9), [number], ("done", number), 1, ["a"])
            self.assertEqual(self.hand_behind([("plus", 1)], number), number + 1)
            self.assertEqual(self.hand_behind([("times", -99)], number), number * -99)
            self.assertEqual(self.hand_behind([("turn", 1)], number), 1 - number)
            self.assertEqual(self.hand_behind([HEAR], 0, [number]), number)
        book = [("a", [("times", 99), ("times", -99), ("ask", "a")])]
        self.goes(book, ("a", 1, [], 120), [], ("spent",), 120, ["a"])


class EachEnd(PlainRuns):

    def test_done_at_once_with_an_empty_body(self):
        for strength in [0, 1, 120]:
            self.goes([("a", [])], ("a", 7, [], strength), [], ("done", 7), 0, ["a"])

    def test_spent_at_once_by_strength_0(self):
        for step in [SAY, HEAR, END, ("plus", 1), ("ask", "b"), ("odd", "b")]:
            self.goes([("a", [step])], ("a", 7, [], 0), [], ("spent",), 0, ["a"])

    def test_lost_at_the_beginning(self):
        for book in [[], [("b", [SAY])], [("aa", [])]]:
            for strength in [0, 1, 120]:
                self.goes(book, ("a", 7, [], strength), [], ("lost", "a"), 0, ["a"])

    def test_lost_by_ask(self):
        self.goes([("a", [SAY, ("ask", "b"), SAY])], ("a", 7, [], 9), [7], ("lost", "b"), 2, ["a", "b"])

    def test_lost_by_odd(self):
        book = [("a", [SAY, ("odd", "b"), SAY])]
        self.goes(book, ("a", 7, [], 9), [7], ("lost", "b"), 2, ["a", "b"])
        self.goes(book, ("a", 8, [], 9), [8, 8], ("done", 8), 3, ["a"])

    def test_lost_in_a_body_that_another_one_used(self):
        book = [("a", [("ask", "b"), SAY]), ("b", [SAY, ("ask", "zzzzzzzz"), SAY])]
        self.goes(book, ("a", 7, [], 9), [7], ("lost", "zzzzzzzz"), 3, ["a", "b", "zzzzzzzz"])

    def test_lost_comes_ahead_of_spent_and_done(self):
        self.goes([("a", [("ask", "b"), SAY])], ("a", 7, [], 1), [], ("lost", "b"), 1, ["a", "b"])
        self.goes([("a", [("ask", "b")])], ("a", 7, [], 1), [], ("lost", "b"), 1, ["a", "b"])
        self.goes([("a", [("odd", "b")])], ("a", 7, [], 9), [], ("lost", "b"), 1, ["a", "b"])

    def test_deaf(self):
        self.goes([("a", [SAY, HEAR, SAY])], ("a", 7, [], 9), [7], ("deaf",), 2, ["a"])
        self.goes([("a", [HEAR, SAY, HEAR, SAY])], ("a", 7, [3], 9), [3], ("deaf",), 3, ["a"])

    def test_deaf_comes_ahead_of_spent_and_done(self):
        self.goes([("a", [HEAR, SAY])], ("a", 7, [], 1), [], ("deaf",), 1, ["a"])
        self.goes([("a", [HEAR])], ("a", 7, [], 1), [], ("deaf",), 1, ["a"])
        self.goes([("a", [HEAR])], ("a", 7, [], 9), [], ("deaf",), 1, ["a"])

    def test_spent_at_the_strength(self):
        book = [("a", [SAY, ("plus", 1), ("ask", "a")])]
        for strength in range(1, 121):
            said = list(range((strength + 2) // 3))
            self.goes(book, ("a", 0, [], strength), said, ("spent",), strength, ["a"])

    def test_done_comes_ahead_of_spent(self):
        for many in range(1, 10):
            book = [("a", [SAY] * many)]
            self.goes(book, ("a", 7, [], many), [7] * many, ("done", 7), many, ["a"])
            self.goes(book, ("a", 7, [], many + 1), [7] * many, ("done", 7), many, ["a"])
            self.goes(book, ("a", 7, [], many - 1), [7] * (many - 1), ("spent",), many - 1, ["a"])

    def test_done_and_spent_behind_bodies_that_are_left(self):
        book = [("a", [("ask", "b"), SAY]), ("b", [("plus", 1)])]
        self.goes(book, ("a", 7, [], 1), [], ("spent",), 1, ["a", "b"])
        self.goes(book, ("a", 7, [], 2), [], ("spent",), 2, ["a", "b"])
        self.goes(book, ("a", 7, [], 3), [8], ("done", 8), 3, ["a", "b"])

    def test_done_by_an_end_at_the_strength(self):
        self.goes([("a", [END, SAY])], ("a", 7, [], 1), [], ("done", 7), 1, ["a"])

    def test_words_that_ask_one_another_in_rounds(self):
        book = [("a", [SAY, ("plus", 1), ("ask", "b")]), ("b", [("plus", 0), ("ask", "a"), SAY])]
        self.goes(book, ("a", 0, [], 100), list(range(20)), ("spent",), 100, ["a", "b"])
        book = [("a", [("ask", "b"), SAY]), ("b", [("ask", "c"), SAY]), ("c", [("ask", "a"), SAY])]
        self.goes(book, ("a", 0, [], 120), [], ("spent",), 120, ["a", "b", "c"])

    def test_rounds_that_come_to_an_end(self):
        book = [("a", [SAY, ("plus", 1), ("odd", "b")]), ("b", [SAY, ("plus", 2), ("ask", "a")])]
        self.goes(book, ("a", 0, [], 120), [0, 1, 3], ("done", 4), 9, ["a", "b"])

    def test_the_deepest_rounds(self):
        book = [("a", [("ask", "a"), SAY])]
        self.goes(book, ("a", 0, [], 120), [], ("spent",), 120, ["a"])


class Used(PlainRuns):

    def test_in_the_turn_of_their_first_use(self):
        book = [("a", [("ask", "d"), ("ask", "b"), ("ask", "d")]), ("b", [("ask", "c"), ("ask", "a")]), ("c", [SAY]),
                ("d", []), ("e", [SAY])]
        self.goes(book, ("a", 0, [], 9), [0, 0], ("spent",), 9, ["a", "d", "b", "c"])

    def test_with_their_bodies(self):
        book = [("a", [("ask", "b"), ("ask", "c")]), ("b", [])]
        self.assertEqual(used(book, ("a", 0, [], 9)),
                         [("a", [("ask", "b"), ("ask", "c")]), ("b", []), ("c", None)])
        self.assertEqual(used(book, ("c", 0, [], 9)), [("c", None)])

    def test_words_that_are_only_named_are_not_used(self):
        book = [("a", [("odd", "b"), END, ("ask", "c")]), ("b", []), ("c", [])]
        self.assertEqual(used(book, ("a", 0, [], 9)), [book[0]])
        self.assertEqual(used(book, ("a", 1, [], 9)), book[:2])

    def test_a_body_is_told_whole_though_not_gone_through(self):
        book = [("a", [SAY, SAY, END, SAY])]
        for strength in range(4):
            self.assertEqual(used(book, ("a", 0, [], strength)), book)


class DrawnRuns(PlainRuns):

    def test_against_the_reference(self):
        chance = random.Random(7)
        ends = {}
        for _ in range(4000):
            book, call = drawn_book(chance), drawn_call(chance)
            said, end, taken, uses = reference(book, call)
            self.assertEqual(run(book, call), (said, end), (book, call))
            self.assertEqual(steps_of(book, call), taken, (book, call))
            self.assertEqual(used(book, call), uses, (book, call))
            ends[end[0]] = ends.get(end[0], 0) + 1
        # So that the draw is known to come to every end often.
        for name in ["done", "lost", "deaf", "spent"]:
            self.assertGreater(ends[name], 100)


class NewLists(PlainRuns):

    BOOK = [("a", [HEAR, SAY, ("ask", "b")]), ("b", [HEAR, SAY, ("odd", "c")])]
    CALL = ("a", 0, [4, 5, 6], 99)
    RUN = ([4, 5], ("lost", "c"))
    USED = [("a", [HEAR, SAY, ("ask", "b")]), ("b", [HEAR, SAY, ("odd", "c")]), ("c", None)]

    def told(self, book, call):
        self.assertEqual(run(book, call), self.RUN)
        self.assertEqual(used(book, call), self.USED)
        self.assertEqual(steps_of(book, call), 6)

    def test_the_kinds_that_are_told(self):
        told = run(self.BOOK, self.CALL)
        self.assertIs(type(told), tuple)
        self.assertIs(type(told[0]), list)
        self.assertIs(type(told[1]), tuple)
        self.assertIs(type(steps_of(self.BOOK, self.CALL)), int)
        uses = used(self.BOOK, self.CALL)
        self.assertIs(type(uses), list)
        for pair in uses:
            self.assertIs(type(pair), tuple)
        self.assertIs(type(uses[0][1]), list)

    def test_what_is_handed_in_stays_as_it_was_and_is_told_again_the_same(self):
        book, call = copy.deepcopy(self.BOOK), copy.deepcopy(self.CALL)
        for _ in range(3):
            self.told(book, call)
            self.assertEqual(book, self.BOOK)
            self.assertEqual(call, self.CALL)

    def test_what_is_told_may_be_changed(self):
        book, call = copy.deepcopy(self.BOOK), copy.deepcopy(self.CALL)
        run(book, call)[0].append(9)
        uses = used(book, call)
        uses[0][1].append(SAY)
        uses[1][1].clear()
        uses.clear()
        self.assertEqual(book, self.BOOK)
        self.assertEqual(call, self.CALL)
        self.told(book, call)

    def test_what_was_told_stays(self):
        book, call = copy.deepcopy(self.BOOK), copy.deepcopy(self.CALL)
        before, uses = run(book, call), used(book, call)
        call[2].clear()
        book[0][1].clear()
        book[1][1].append(SAY)
        book.clear()
        self.assertEqual(before, self.RUN)
        self.assertEqual(uses, self.USED)

    def test_a_book_changed_in_place_is_told_anew(self):
        book, call = copy.deepcopy(self.BOOK), copy.deepcopy(self.CALL)
        self.told(book, call)
        book[0][1].pop()
        self.goes(book, call, [4], ("done", 4), 2, ["a"])
        book[0] = ("aa", [])
        self.goes(book, call, [], ("lost", "a"), 0, ["a"])
        book.append(("a", []))
        self.refused(BadBook, run, book, call)

    def test_a_call_changed_in_place_is_told_anew(self):
        book, call = copy.deepcopy(self.BOOK), copy.deepcopy(self.CALL)
        self.told(book, call)
        call[2][1] = 8
        self.goes(book, call, [4, 8], ("done", 8), 6, ["a", "b"])
        call[2].clear()
        self.goes(book, call, [], ("deaf",), 1, ["a"])
        call[2].append(None)
        self.refused(BadCall, run, book, call)


class NoRuns(Refusing):

    def test_no_book(self):
        for book in no_books():
            for action in [run, used, steps_of]:
                self.refused(BadBook, action, book, ("a", 0, [], 9))

    def test_no_call(self):
        for call in no_calls():
            for action in [run, used, steps_of]:
                self.refused(BadCall, action, [("a", [SAY])], call)
                self.refused(BadCall, action, [], call)

    def test_of_two_refusals_the_book_comes_first(self):
        for book in [None, (), [("b", []), ("a", [])], [("a", None)], [("a", [("walk",)])]]:
            for call in no_calls():
                for action in [run, used, steps_of]:
                    self.refused(BadBook, action, book, call)

    def test_what_is_refused_changes_nothing(self):
        book, call = [("b", [SAY]), ("a", [])], ("a", 0, [1], 9)
        wrong_call = ("a", 0, [1, 2], 121)
        for action in [run, used, steps_of]:
            self.refused(BadBook, action, book, call)
            self.refused(BadCall, action, [("a", [HEAR])], wrong_call)
        self.assertEqual(book, [("b", [SAY]), ("a", [])])
        self.assertEqual(call, ("a", 0, [1], 9))
        self.assertEqual(wrong_call, ("a", 0, [1, 2], 121))


if __name__ == "__main__":
    unittest.main()
