"""Let and Barred: what papers made by hand show, and what they are made of."""

import copy
import itertools
import random
import unittest

from midstride.judging import judged
from midstride.papers import Barred, Let, Paper
from tests.samples import ask, drawn_editions, drawn_view, is_reason, standing

SAY = ("say",)
END = ("end",)

# The word a has three bodies in turn, b comes and goes, c asks a.
EDITIONS = [[("a", [SAY]), ("c", ask("a"))],
            [("a", [END]), ("b", []), ("c", ask("a"))],
            [("a", []), ("c", ask("a", "b"))],
            [("a", [END]), ("c", ask("a", "b"))]]

ZOE = ("zoe", 0, [("a", [SAY])], [])
BOB = ("bob", 1, [("a", [END])], [SAY])
AL = ("al", 0, [("b", None)], ask("a"))
LETTING = [ZOE, BOB, AL]
# The editions that stand for each of them: 0; 1 and 3; 3.
WITNESSES = [("zoe", 0), ("bob", 1), ("al", 3)]

CY = ("cy", 1, [("a", [SAY])], [])
DAN = ("dan", 2, [("a", [])], [SAY, ("odd", "c")])
BARRING = [ZOE, CY, BOB, DAN]
REASONS = [("cy", [("used", "a"), ("used", "a"), ("used", "a")]), ("dan", [("may", ["c", "a"]), ("used", "a")])]


def changed_at(rows, at, row):
    """The rows with another one in that place."""
    return rows[:at] + [row] + rows[at + 1:]


class Classes(unittest.TestCase):

    def test_straight_under_paper(self):
        for kind in (Let, Barred):
            self.assertEqual(kind.__bases__, (Paper,))
            self.assertIn("shows", vars(kind))

    def test_the_fields(self):
        self.assertEqual(Let(WITNESSES).witnesses, WITNESSES)
        self.assertEqual(Barred(REASONS).reasons, REASONS)
        self.assertEqual((Let([]).witnesses, Barred([]).reasons), ([], []))


class LetShows(unittest.TestCase):

    def shows(self, witnesses, views=LETTING):
        truth = Let(witnesses).shows(EDITIONS, views)
        self.assertIs(type(truth), bool)
        return truth

    def test_right_ones(self):
        self.assertTrue(self.shows(WITNESSES))
        self.assertTrue(self.shows([("zoe", 0), ("bob", 3), ("al", 3)]))
        self.assertTrue(self.shows([("bob", 3)], [BOB]))

    def test_no_views(self):
        self.assertTrue(self.shows([], []))
        self.assertFalse(self.shows([("zoe", 0)], []))
        self.assertFalse(self.shows([], [ZOE]))

    def test_every_edition(self):
        for at, one in enumerate(LETTING):
            for edition in [-5, -4, -3, -2, -1, 0, 1, 2, 3, 4, 5, 40, 10 ** 50, -10 ** 50]:
                row = (one[0], edition)
                self.assertEqual(self.shows(changed_at(WITNESSES, at, row)), edition in standing(EDITIONS, one))
                self.assertEqual(self.shows([row], [one]), edition in standing(EDITIONS, one))

    def test_an_edition_ahead_of_the_first_one(self):
        for first in range(4):
            one = ("one", first, [], [])
            for edition in range(-4, 8):
                self.assertEqual(Let([("one", edition)]).shows(EDITIONS, [one]), first <= edition < 4)

    def test_names_in_another_turn(self):
        for rows in itertools.permutations(WITNESSES):
            self.assertEqual(self.shows(list(rows)), list(rows) == WITNESSES)
        views = [("one", 0, [], []), ("two", 0, [], [])]
        self.assertTrue(Let([("one", 0), ("two", 0)]).shows(EDITIONS, views))
        self.assertFalse(Let([("two", 0), ("one", 0)]).shows(EDITIONS, views))

    def test_one_too_few_and_one_too_many(self):
        for at in range(3):
            self.assertFalse(self.shows(WITNESSES[:at] + WITNESSES[at + 1:]))
            self.assertFalse(self.shows(WITNESSES[:at] + [WITNESSES[at]] + WITNESSES[at:]))
        for at in range(4):
            self.assertFalse(self.shows(WITNESSES[:at] + [("eve", 0)] + WITNESSES[at:]))
        self.assertFalse(self.shows(WITNESSES, LETTING + [("eve", 0, [], [])]))
        self.assertFalse(self.shows([]))

    def test_other_names(self):
        for at in range(3):
            self.assertFalse(self.shows(changed_at(WITNESSES, at, ("eve", WITNESSES[at][1]))))

    def test_no_edition_stands(self):
        for edition in range(-2, 6):
            self.assertFalse(self.shows([("cy", edition)], [CY]))
            self.assertFalse(self.shows(WITNESSES + [("cy", edition)], LETTING + [CY]))

    def test_a_told_paper_asked_of_others(self):
        paper = judged(EDITIONS, LETTING)
        self.assertTrue(paper.shows(EDITIONS, LETTING))
        self.assertFalse(paper.shows(EDITIONS, [ZOE, BOB]))
        self.assertFalse(paper.shows(EDITIONS[::-1], LETTING))
        self.assertFalse(paper.shows(EDITIONS[:3], LETTING))

    def test_by_the_field_as_it_stands_then(self):
        paper = Let(WITNESSES)
        paper.witnesses[1] = ("bob", 2)
        self.assertFalse(paper.shows(EDITIONS, LETTING))
        paper.witnesses[1] = ("bob", 3)
        self.assertTrue(paper.shows(EDITIONS, LETTING))
        paper.witnesses.pop()
        self.assertFalse(paper.shows(EDITIONS, LETTING))
        self.assertTrue(paper.shows(EDITIONS, LETTING[:2]))
        paper.witnesses = [("al", 3)]
        self.assertTrue(paper.shows(EDITIONS, [AL]))


class BarredShows(unittest.TestCase):

    def shows(self, reasons, views=BARRING):
        truth = Barred(reasons).shows(EDITIONS, views)
        self.assertIs(type(truth), bool)
        return truth

    def test_right_ones(self):
        self.assertTrue(self.shows(REASONS))
        self.assertTrue(self.shows(REASONS[:1], [CY]))
        self.assertTrue(self.shows(REASONS[1:], [DAN, ZOE]))

    def test_an_empty_one(self):
        for views in [[], [ZOE], LETTING, [CY], BARRING]:
            self.assertFalse(self.shows([], views))

    def test_where_an_edition_stands(self):
        self.assertFalse(self.shows([("zoe", [("used", "a")] * 4)], [ZOE]))
        self.assertFalse(self.shows([("bob", [("used", "a")] * 3)], [BOB]))
        self.assertFalse(self.shows([("zoe", [])], [ZOE]))
        self.assertFalse(self.shows([("zoe", [("used", "a")] * 4)] + REASONS))
        self.assertFalse(self.shows([("zoe", [])] + REASONS))

    def test_every_reason_for_one_edition(self):
        words = ["a", "b", "c", "d"]
        rows = [list(row) for many in range(4) for row in itertools.product(words, repeat=many)]
        every_reason = [("used", word) for word in words] + [("may", row) for row in rows]
        right_ones = []
        for one, reasons in [(CY, REASONS[0][1]), (DAN, REASONS[1][1])]:
            for at in range(len(reasons)):
                for reason in every_reason:
                    right = is_reason(reason, EDITIONS, one[1] + at, one)
                    self.assertEqual(self.shows([(one[0], changed_at(reasons, at, reason))], [one]), right)
                    right_ones += [(one[0], at, reason)] * right
        self.assertEqual(right_ones, [("cy", at, ("used", "a")) for at in range(3)] + [
            ("dan", 0, ("may", ["c", "a"])), ("dan", 1, ("used", "a"))])

    def test_where_both_are_so_either_is_right(self):
        editions = [[("a", []), ("b", ask("c"))], [("a", [SAY]), ("b", ask("c")), ("c", ask("b"))], []]
        one = ("one", 0, [("a", [END])], ask("a", "b"))
        for first in [("used", "a"), ("may", ["a"]), ("may", ["b"])]:
            for second in [("used", "a"), ("may", ["b"]), ("may", ["a"])]:
                paper = Barred([("one", [first, second, ("used", "a")])])
                self.assertTrue(paper.shows(editions, [one]), (first, second))

    def test_used_reasons_for_another_word(self):
        editions = [[("a", [SAY]), ("b", [])], [("a", [SAY])]]
        one = ("one", 0, [("a", [SAY]), ("b", [END]), ("c", None)], [])
        for word in "abcd":
            for other in "abcd":
                paper = Barred([("one", [("used", word), ("used", other)])])
                self.assertEqual(paper.shows(editions, [one]), word == other == "b")

    def test_a_used_reason_of_a_word_that_was_used_with_none(self):
        editions, one = [[("a", [])], [("a", [SAY]), ("b", [])]], ("one", 0, [("a", None), ("b", None)], [])
        for word in "abc":
            self.assertEqual(Barred([("one", [("used", "a"), ("used", word)])]).shows(editions, [one]), word in "ab")
            self.assertEqual(Barred([("one", [("used", word), ("used", "a")])]).shows(editions, [one]), word == "a")

    def test_rows_by_the_last_edition_alone(self):
        editions = [[("a", ask("b")), ("b", [SAY]), ("d", [])], [("a", ask("c")), ("b", [END]), ("c", [])]]
        one = ("one", 0, [("d", [])], ask("a"))
        for row, right in [(["a"], True), (["a", "c"], True), (["a", "b"], False), (["b"], False), (["c"], False)]:
            self.assertEqual(Barred([("one", [("may", row), ("used", "d")])]).shows(editions, [one]), right)

    def test_rows_that_need_not_be_the_shortest(self):
        editions = [[("a", ask("b")), ("b", ask("a", "c")), ("c", [])], [("a", ask("b")), ("b", ask("a", "c"))]]
        one = ("one", 0, [("c", [])], ask("b", "a"))
        for row, right in [(["b", "c"], True), (["a", "b", "c"], True), (["b", "a", "b", "c"], True),
                           (["a", "b"] * 60 + ["c"], True), (["a", "b"], False), (["c"], False), (["a", "c"], False),
                           (["b", "b", "c"], False), (["b", "c", "c"], False), ([], False)]:
            self.assertEqual(Barred([("one", [("may", row), ("used", "c")])]).shows(editions, [one]), right)

    def test_rows_from_steps_behind_an_end(self):
        editions, one = [[("a", []), ("b", [])], [("b", [SAY])]], ("one", 0, [("a", [])], [END, SAY, ("odd", "b")])
        self.assertTrue(Barred([("one", [("may", ["b"]), ("used", "a")])]).shows(editions, [one]))
        self.assertFalse(Barred([("one", [("may", ["a"]), ("used", "a")])]).shows(editions, [one]))

    def test_too_few_and_too_many_reasons(self):
        for at, (name, reasons) in enumerate(REASONS):
            for wrong in [[], reasons[:-1], reasons[1:], reasons + reasons[-1:], reasons[:1] + reasons]:
                self.assertFalse(self.shows(changed_at(REASONS, at, (name, wrong))))

    def test_names_in_another_turn(self):
        self.assertFalse(self.shows(REASONS[::-1]))
        self.assertTrue(self.shows(REASONS[::-1], BARRING[::-1]))

    def test_one_too_few_and_one_too_many(self):
        for at in range(2):
            self.assertFalse(self.shows(REASONS[:at] + REASONS[at + 1:]))
            self.assertFalse(self.shows(REASONS[:at] + [REASONS[at]] + REASONS[at:]))
            self.assertFalse(self.shows(changed_at(REASONS, at, ("eve", REASONS[at][1]))))
        for at in range(3):
            self.assertFalse(self.shows(REASONS[:at] + [("eve", [("used", "a")])] + REASONS[at:]))

    def test_the_other_sort_of_paper(self):
        self.assertFalse(Let([(name, 3) for name, _ in REASONS]).shows(EDITIONS, BARRING))
        self.assertFalse(Let([(one[0], 3) for one in BARRING]).shows(EDITIONS, BARRING))
        self.assertFalse(Barred(REASONS).shows(EDITIONS, LETTING))

    def test_a_told_paper_asked_of_others(self):
        paper = judged(EDITIONS, BARRING)
        self.assertTrue(paper.shows(EDITIONS, BARRING))
        self.assertTrue(paper.shows(EDITIONS, [CY, DAN]))
        self.assertFalse(paper.shows(EDITIONS, [CY]))
        self.assertFalse(paper.shows(EDITIONS + [EDITIONS[0]], BARRING))
        self.assertFalse(paper.shows(EDITIONS[:3], BARRING))

    def test_by_the_fields_as_they_stand_then(self):
        paper = Barred(REASONS)
        self.assertTrue(paper.shows(EDITIONS, BARRING))
        paper.reasons[1][1][0][1].insert(0, "b")
        self.assertFalse(paper.shows(EDITIONS, BARRING))
        paper.reasons[1][1][0][1].pop(0)
        self.assertTrue(paper.shows(EDITIONS, BARRING))
        paper.reasons[0][1].pop()
        self.assertFalse(paper.shows(EDITIONS, BARRING))
        paper.reasons[0][1].append(("used", "a"))
        self.assertTrue(paper.shows(EDITIONS, BARRING))
        paper.reasons.pop()
        self.assertFalse(paper.shows(EDITIONS, BARRING))
        paper.reasons = copy.deepcopy(REASONS[1:])
        self.assertTrue(paper.shows(EDITIONS, [DAN]))


class DrawnPapers(unittest.TestCase):

    def drawn(self, chance):
        """Editions and two views drawn by chance."""
        editions = drawn_editions(chance)
        return editions, [drawn_view(chance, editions, name) for name in ["one", "two"]]

    def test_let_just_where_all_are_right(self):
        chance, right_ones = random.Random(31), 0
        for _ in range(1500):
            editions, views = self.drawn(chance)
            witnesses = [(name, chance.randrange(-1, len(editions) + 1)) for name in ["one", "two"]]
            right = all(edition in standing(editions, one) for (_, edition), one in zip(witnesses, views))
            self.assertIs(Let(witnesses).shows(editions, views), right)
            right_ones += right
        self.assertTrue(100 < right_ones < 1400, right_ones)

    def test_barred_just_where_all_are_right(self):
        chance, right_ones, many = random.Random(32), 0, 0
        while many < 1000:
            editions, views = self.drawn(chance)
            paper = judged(editions, views)
            if isinstance(paper, Let):
                continue
            many += 1
            name, reasons = chance.choice(paper.reasons)
            at = chance.randrange(len(reasons))
            reasons[at] = chance.choice([("used", chance.choice("abcde")), ("may", [chance.choice("abcde")]),
                                         ("may", chance.choices("abcde", k=2))])
            one = dict(zip(["one", "two"], views))[name]
            right = is_reason(reasons[at], editions, one[1] + at, one)
            self.assertIs(paper.shows(editions, views), right)
            right_ones += right
        self.assertTrue(50 < right_ones < 900, right_ones)


class Copies(unittest.TestCase):

    def test_the_lists_that_they_are_made_of_may_be_changed(self):
        witnesses, reasons = copy.deepcopy((WITNESSES, REASONS))
        let, barred = Let(witnesses), Barred(reasons)
        witnesses.clear()
        reasons[1][1][0][1].clear()
        reasons[1][1].clear()
        reasons.clear()
        self.assertEqual((let.witnesses, barred.reasons), (WITNESSES, REASONS))
        self.assertTrue(let.shows(EDITIONS, LETTING))
        self.assertTrue(barred.shows(EDITIONS, BARRING))

    def test_the_fields_may_be_changed(self):
        witnesses, reasons = copy.deepcopy((WITNESSES, REASONS))
        let, barred = Let(witnesses), Barred(reasons)
        let.witnesses.clear()
        barred.reasons[1][1][0][1].clear()
        barred.reasons[1][1].clear()
        barred.reasons.clear()
        self.assertEqual((witnesses, reasons), (WITNESSES, REASONS))

    def test_two_papers_of_one_list(self):
        one, other = Barred(REASONS), Barred(REASONS)
        one.reasons[1][1][0][1].clear()
        self.assertEqual(other.reasons, REASONS)

    def test_nothing_is_changed_by_asking(self):
        editions, letting, barring = copy.deepcopy((EDITIONS, LETTING, BARRING))
        let, barred = Let(WITNESSES), Barred(REASONS)
        for _ in range(2):
            let.shows(editions, letting)
            let.shows(editions, barring)
            barred.shows(editions, letting)
            barred.shows(editions, barring)
            self.assertEqual((editions, letting, barring), (EDITIONS, LETTING, BARRING))
            self.assertEqual((let.witnesses, barred.reasons), (WITNESSES, REASONS))


if __name__ == "__main__":
    unittest.main()
