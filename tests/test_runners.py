"""What goes through a call step by step, as the house will need it."""

import random
import unittest

from midstride.plain import run, steps_of, used
from midstride.runners import Runner
from tests.samples import drawn_book, drawn_call

SAY = ("say",)
HEAR = ("hear",)
END = ("end",)


class StepByStep(unittest.TestCase):

    def test_it_has_begun_without_a_step(self):
        runner = Runner({"a": [SAY]}, ("a", 7, [], 9))
        self.assertEqual((runner.said, runner.taken, runner.ended), ([], 0, ()))
        self.assertEqual(runner.told_uses(), [("a", [SAY])])
        self.assertEqual(runner.steps_left(), [SAY])

    def test_it_may_be_over_at_once(self):
        self.assertEqual(Runner({"a": []}, ("a", 7, [], 0)).ended, ("done", 7))
        self.assertEqual(Runner({"a": [SAY]}, ("a", 7, [], 0)).ended, ("spent",))
        self.assertEqual(Runner({}, ("a", 7, [], 0)).ended, ("lost", "a"))

    def test_each_step_tells_what_is_said_with_it(self):
        runner = Runner({"a": [SAY, ("plus", 1), SAY]}, ("a", 7, [], 9))
        self.assertEqual([runner.take_step(), runner.take_step(), runner.take_step()], [[7], [], [8]])
        self.assertEqual((runner.said, runner.taken, runner.ended), ([7, 8], 3, ("done", 8)))

    def test_what_is_told_may_be_changed(self):
        bodies = {"a": [SAY, ("ask", "b"), SAY], "b": [SAY]}
        runner = Runner(bodies, ("a", 7, [], 9))
        runner.take_step().append(50)
        runner.told_uses()[0][1].clear()
        runner.told_uses().clear()
        runner.steps_left().clear()
        while not runner.ended:
            runner.take_step()
        self.assertEqual((runner.said, runner.taken, runner.ended), ([7, 7, 7], 4, ("done", 7)))
        self.assertEqual(runner.told_uses(), [("a", [SAY, ("ask", "b"), SAY]), ("b", [SAY])])

    def test_what_is_handed_in_stays_as_it_was(self):
        bodies, call = {"a": [HEAR, SAY, END, SAY]}, ("a", 7, [1, 2], 9)
        runner = Runner(bodies, call)
        while not runner.ended:
            runner.take_step()
        self.assertEqual(bodies, {"a": [HEAR, SAY, END, SAY]})
        self.assertEqual(call, ("a", 7, [1, 2], 9))

    def test_dropped(self):
        runner = Runner({"a": [SAY, SAY]}, ("a", 7, [], 9))
        runner.take_step()
        runner.leave_off()
        self.assertEqual((runner.said, runner.ended), ([7], ("dropped",)))
        self.assertEqual(runner.told_uses(), [("a", [SAY, SAY])])

    def test_step_by_step_as_in_a_plain_run(self):
        chance = random.Random(8)
        for _ in range(500):
            book, call = drawn_book(chance), drawn_call(chance)
            runner, said = Runner(dict(book), call), []
            while not runner.ended:
                said += runner.take_step()
            self.assertEqual((said, runner.ended), run(book, call))
            self.assertEqual((runner.taken, runner.told_uses()), (steps_of(book, call), used(book, call)))


class StepsLeft(unittest.TestCase):

    def left_behind_each_step(self, bodies, call):
        runner = Runner(bodies, call)
        left = [runner.steps_left()]
        while not runner.ended:
            runner.take_step()
            left.append(runner.steps_left())
        return left

    def test_of_one_body(self):
        self.assertEqual(self.left_behind_each_step({"a": [SAY, ("plus", 1)]}, ("a", 0, [], 9)),
                         [[SAY, ("plus", 1)], [("plus", 1)], []])

    def test_those_of_the_body_begun_last_come_first(self):
        bodies = {"a": [("ask", "b"), ("plus", 1)], "b": [("ask", "c"), ("plus", 2)], "c": [SAY, ("plus", 3)]}
        self.assertEqual(self.left_behind_each_step(bodies, ("a", 0, [], 99)), [
            [("ask", "b"), ("plus", 1)],
            [("ask", "c"), ("plus", 2), ("plus", 1)],
            [SAY, ("plus", 3), ("plus", 2), ("plus", 1)],
            [("plus", 3), ("plus", 2), ("plus", 1)],
            [("plus", 2), ("plus", 1)],
            [("plus", 1)],
            []])

    def test_those_behind_an_end_too_till_it_is_taken(self):
        bodies = {"a": [("ask", "b"), END, ("ask", "c")], "b": [SAY, END, ("ask", "d")]}
        self.assertEqual(self.left_behind_each_step(bodies, ("a", 0, [], 99)), [
            [("ask", "b"), END, ("ask", "c")],
            [SAY, END, ("ask", "d"), END, ("ask", "c")],
            [END, ("ask", "d"), END, ("ask", "c")],
            [END, ("ask", "c")],
            []])

    def test_behind_an_ask_that_is_the_last_step(self):
        bodies = {"a": [("ask", "b")], "b": [SAY, ("ask", "c"), SAY], "c": []}
        self.assertEqual(self.left_behind_each_step(bodies, ("a", 0, [], 99)), [
            [("ask", "b")], [SAY, ("ask", "c"), SAY], [("ask", "c"), SAY], [SAY], []])


class OtherBodies(unittest.TestCase):

    def test_a_body_that_was_begun_is_gone_through_as_begun(self):
        runner = Runner({"a": [SAY, ("plus", 1), SAY]}, ("a", 0, [], 9))
        runner.take_step()
        runner.go_by({"a": [END], "b": []})
        self.assertEqual(runner.steps_left(), [("plus", 1), SAY])
        runner.take_step()
        self.assertEqual(runner.take_step(), [1])
        self.assertEqual(runner.ended, ("done", 1))

    def test_words_that_are_used_later_have_the_other_bodies(self):
        runner = Runner({"a": [("ask", "b"), ("ask", "c")], "b": [("plus", 1), SAY], "c": [SAY]}, ("a", 0, [], 9))
        runner.take_step()
        runner.go_by({"a": [], "b": [], "c": [("plus", 50), SAY]})
        while not runner.ended:
            runner.take_step()
        self.assertEqual((runner.said, runner.ended), ([1, 51], ("done", 51)))
        self.assertEqual(runner.told_uses(), [("a", [("ask", "b"), ("ask", "c")]), ("b", [("plus", 1), SAY]),
                                              ("c", [("plus", 50), SAY])])

    def test_a_word_used_again_is_told_with_the_body_of_its_first_use(self):
        runner = Runner({"a": [("ask", "b"), ("ask", "b")], "b": [SAY]}, ("a", 0, [], 9))
        runner.take_step()
        runner.take_step()
        runner.go_by({"b": [("plus", 1), SAY]})
        while not runner.ended:
            runner.take_step()
        self.assertEqual(runner.said, [0, 1])
        self.assertEqual(runner.told_uses(), [("a", [("ask", "b"), ("ask", "b")]), ("b", [SAY])])

    def test_words_that_have_no_body_any_more_are_lost(self):
        runner = Runner({"a": [("ask", "b"), SAY], "b": []}, ("a", 0, [], 9))
        runner.go_by({})
        runner.take_step()
        self.assertEqual(runner.ended, ("lost", "b"))
        self.assertEqual(runner.told_uses(), [("a", [("ask", "b"), SAY]), ("b", None)])

    def test_a_body_changed_in_place_is_gone_through_as_begun(self):
        bodies = {"a": [SAY, ("plus", 1)]}
        runner = Runner(bodies, ("a", 0, [], 9))
        bodies["a"].clear()
        self.assertEqual(runner.steps_left(), [SAY, ("plus", 1)])


if __name__ == "__main__":
    unittest.main()
