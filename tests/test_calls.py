"""What a call is, and what is none."""

import unittest

from midstride.calls import checked_call, is_call
from midstride.errors import BadCall
from tests.samples import HUGE, NO_WORDS, ODDMENTS, WORDS, deep_list, endless_list

CALLS = [("a", 0, [], 0), ("a", 0, [], 120), ("abcdefgh", 5, [1, 2, 3], 60), ("a", 0, list(range(20)), 7),
         ("a", HUGE, [], 1), ("a", -HUGE, [HUGE, -HUGE, 0, 1, -1], 119), ("a", -1, [0] * 20, 120)]
CALLS += [(word, 1, [1], 1) for word in WORDS]

NO_NUMBERS = ODDMENTS + ["", "1", "a", [], [1], (), (1,), deep_list(), endless_list()]

NO_HEARD = [thing for thing in ODDMENTS] + [0, 1, "", "12", (), (1, 2), [0] * 21, list(range(22)), [[]], [[1]],
                                            deep_list(), endless_list()]
NO_HEARD += [[number] for number in NO_NUMBERS] + [[1] * 19 + [number] for number in NO_NUMBERS]

NO_STRENGTHS = NO_NUMBERS + [-1, 121, 122, -120, HUGE, -HUGE]


class RightCalls(unittest.TestCase):

    def test_calls_at_every_edge(self):
        for call in CALLS:
            with self.subTest(word=call[0], many=len(call[2]), strength=call[3]):
                self.assertIs(is_call(call), True)
                self.assertEqual(checked_call(call), call)

    def test_every_strength(self):
        for strength in range(121):
            self.assertTrue(is_call(("a", 0, [], strength)))

    def test_every_count_of_heard_numbers(self):
        for many in range(21):
            self.assertTrue(is_call(("a", 0, [-7] * many, 3)))


class NoCalls(unittest.TestCase):

    def refused(self, thing):
        self.assertIs(is_call(thing), False)
        with self.assertRaises(BadCall) as caught:
            checked_call(thing)
        self.assertIs(type(caught.exception), BadCall)

    def test_another_kind_in_place_of_the_tuple(self):
        for thing in ODDMENTS + [0, HUGE, "", "a", [], ["a", 0, [], 0], "abcd", deep_list(), endless_list(),
                                 {"a": 0, "b": 1, "c": 2, "d": 3}]:
            self.refused(thing)

    def test_a_part_too_few_or_too_many(self):
        for thing in [(), ("a",), ("a", 0), ("a", 0, []), (0, [], 0), ("a", [], 0), ("a", 0, 0), ("a", 0, [], 0, 0),
                      ("a", 0, [], 0, None), ("a", 0, [], 0, "a", 1)]:
            self.refused(thing)

    def test_wrong_words(self):
        for word in NO_WORDS:
            self.refused((word, 0, [], 0))

    def test_wrong_numbers_in_hand(self):
        for number in NO_NUMBERS:
            self.refused(("a", number, [], 0))

    def test_wrong_heard_numbers(self):
        for heard in NO_HEARD:
            self.refused(("a", 0, heard, 0))

    def test_wrong_strengths(self):
        for strength in NO_STRENGTHS:
            self.refused(("a", 0, [], strength))

    def test_parts_out_of_turn(self):
        for thing in [(0, "a", [], 0), ("a", [], 0, 0), ("a", 0, 0, [])]:
            self.refused(thing)


class NewCalls(unittest.TestCase):

    def test_what_is_told_is_not_what_was_handed_in(self):
        heard = [1, 2]
        checked = checked_call(("a", 0, heard, 5))
        heard.append(3)
        self.assertEqual(checked, ("a", 0, [1, 2], 5))

    def test_what_is_told_may_be_changed(self):
        call = ("a", 0, [1, 2], 5)
        checked_call(call)[2].append(3)
        self.assertEqual(call, ("a", 0, [1, 2], 5))
        self.assertEqual(checked_call(call), ("a", 0, [1, 2], 5))

    def test_a_refused_call_stays_as_it_was(self):
        call = ("a", 0, [1, True], 5)
        with self.assertRaises(BadCall):
            checked_call(call)
        self.assertEqual(repr(call), "('a', 0, [1, True], 5)")


if __name__ == "__main__":
    unittest.main()
