"""What a call is, and what is none."""

import unittest

from midstride.calls import checked_call, is_call
from midstride.errors import BadCall
from tests.samples import HUGE, Refusing, WORDS, no_calls

CALLS = [("a", 0, [], 0), ("a", 0, [], 120), ("abcdefgh", 5, [1, 2, 3], 60), ("a", 0, list(range(20)), 7),
         ("a", HUGE, [], 1), ("a", -HUGE, [HUGE, -HUGE, 0, 1, -1], 119), ("a", -1, [0] * 20, 120)]
CALLS += [(word, 1, [1], 1) for word in WORDS]


class RightCalls(unittest.TestCase):

    def test_calls_at_every_edge(self):
        for call in CALLS:
            with self.subTest(word=call[0], many=len(call[2]), strength=call[3]):
                self.assertIs(is_call(call), True)
                self.assertEqual(checked_call(call), call)

    def test_every_strength(self):
        for strength in range(121):
            self.assertTrue(is_call(("a", 0, [], strength)))

    def test_every_count_of_heard_numbers(self):
        for many in range(21):
            self.assertTrue(is_call(("a", 0, [-7] * many, 3)))


class NoCalls(Refusing):

    def test_what_is_no_call(self):
        for thing in no_calls():
            self.assertIs(is_call(thing), False)
            self.refused(BadCall, checked_call, thing)


class NewCalls(unittest.TestCase):

    def test_what_is_told_is_not_what_was_handed_in(self):
        heard = [1, 2]
        checked = checked_call(("a", 0, heard, 5))
        heard.append(3)
        self.assertEqual(checked, ("a", 0, [1, 2], 5))

    def test_what_is_told_may_be_changed(self):
        call = ("a", 0, [1, 2], 5)
        checked_call(call)[2].append(3)
        self.assertEqual(call, ("a", 0, [1, 2], 5))
        self.assertEqual(checked_call(call), ("a", 0, [1, 2], 5))

    def test_a_refused_call_stays_as_it_was(self):
        call = ("a", 0, [1, True], 5)
        with self.assertRaises(BadCall):
            checked_call(call)
        self.assertEqual(repr(call), "('a', 0, [1, True], 5)")


if __name__ == "__main__":
    unittest.main()
