"""stands and judged: which editions stand for a view, and the papers that are told."""

import copy
import random
import unittest

from midstride.errors import BadBook, BadCall
from midstride.judging import judged, stands
from midstride.papers import Barred, Let
from tests.samples import (BODIES, HUGE, NO_NUMBERS, NO_WORDS, ODDMENTS, PaperReading, Refusing, STEPS, WORDS, ask,
                           deep_list, drawn_editions, drawn_view, endless_list, no_books, no_changes, no_steps,
                           standing)

SAY = ("say",)
END = ("end",)

FEW_BAD_EDITIONS = [None, (), [], [None], [[], ()], [[("a", None)]], [[], [("b", []), ("a", [])]]]


def view(uses, left, first=0, name="one"):
    """A view of somebody."""
    return (name, first, uses, left)


def no_editions():
    """What is no list of books, or one without any."""
    wrong = ODDMENTS + [[], (), ([],), 0, HUGE, "", "a", deep_list(), endless_list(), ("a", []), [("a", [])]]
    for book in no_books():
        wrong.append([book])
        wrong.append([[], book])
        wrong.append([book, []])
    return wrong


def no_views():
    """What is no view of two editions: other kinds, a part too few or too many, each part spoilt, parts out of turn."""
    wrong = ODDMENTS + [0, HUGE, "", "a", [], ["one", 0, [], []], "abcd", deep_list(), endless_list()]
    wrong += [(), ("one",), ("one", 0), ("one", 0, []), (0, [], []), ("one", [], []), ("one", 0, [], [], []),
              ("one", 0, [], [], None), (0, "one", [], []), ("one", [], 0, []), ([], 0, "one", [])]
    wrong += [(name, 0, [], []) for name in NO_WORDS]
    wrong += [("one", first, [], []) for first in NO_NUMBERS + [-1, -2, 2, 3, HUGE, -HUGE]]
    wrong += [("one", 0, uses, []) for uses in no_changes()]
    wrong += [("one", 1, [("a", [])], left) for left in
              ODDMENTS + [0, HUGE, "", "say", (), (SAY,), SAY, deep_list(), endless_list()]]
    for step in no_steps():
        wrong.append(("one", 0, [], [step]))
        wrong.append(("one", 0, [], [SAY] * 50 + [step]))
        wrong.append(("one", 0, [], [step, SAY]))
    return wrong


class Stands(Refusing):

    def test_one_edition(self):
        book = [("a", [SAY]), ("b", [])]
        self.assertEqual(stands([book], view([], [])), [0])
        self.assertEqual(stands([book], view([("a", [SAY])], ask("a", "b", "c"))), [0])
        self.assertEqual(stands([book], view([("b", []), ("c", None)], [])), [0])
        self.assertEqual(stands([book], view([("a", [END])], [])), [])
        self.assertEqual(stands([[]], view([], ask("a"))), [0])

    def test_what_was_used_with_a_body(self):
        editions = [[("a", [SAY])], [("a", [END])], [("a", [SAY])], [], [("a", [])], [("a", [SAY]), ("b", [])]]
        self.assertEqual(stands(editions, view([("a", [SAY])], [])), [0, 2, 5])
        self.assertEqual(stands(editions, view([("a", [END])], [])), [1])
        self.assertEqual(stands(editions, view([("a", [])], [])), [4])
        self.assertEqual(stands(editions, view([("a", [SAY, SAY])], [])), [])

    def test_what_was_used_with_none(self):
        editions = [[("a", [SAY])], [("b", [])], [], [("a", [])]]
        self.assertEqual(stands(editions, view([("a", None)], [])), [1, 2])
        self.assertEqual(stands(editions, view([("b", None)], [])), [0, 2, 3])
        self.assertEqual(stands(editions, view([("a", None), ("b", None)], [])), [2])

    def test_every_used_word_counts(self):
        editions = [[("a", [SAY]), ("b", [END])], [("a", [SAY]), ("b", [])], [("a", []), ("b", [END])]]
        self.assertEqual(stands(editions, view([("a", [SAY]), ("b", [END])], [])), [0])
        self.assertEqual(stands(editions, view([("b", [END]), ("a", [SAY])], [])), [0])
        self.assertEqual(stands(editions, view([("b", [END])], [])), [0, 2])
        self.assertEqual(stands(editions, view([("a", [SAY]), ("b", [SAY])], [])), [])

    def test_views_that_begin_at_each_edition(self):
        editions = [[("a", [SAY])] if at % 3 else [] for at in range(40)]
        for first in range(40):
            self.assertEqual(stands(editions, view([("a", [SAY])], [], first)),
                             [at for at in range(first, 40) if at % 3])
            self.assertEqual(stands(editions, view([("a", None)], [], first)),
                             [at for at in range(first, 40) if at % 3 == 0])
            self.assertEqual(stands(editions, view([], ask("a"), first)),
                             [at for at in range(first, 40) if at % 3 == 0])
            self.assertEqual(stands(editions, view([], [], first)), list(range(first, 40)))
            self.assertEqual(stands(editions, view([("b", [])], [], first)), [])

    def test_what_the_steps_left_may_use(self):
        editions = [[("a", ask("b")), ("b", [SAY])], [("a", ask("b")), ("b", [END])], [("a", ask("b"))],
                    [("a", ask("b")), ("b", [END]), ("c", [])], [("a", ask("b")), ("b", [END])]]
        self.assertEqual(stands(editions, view([], ask("a"))), [1, 3, 4])
        self.assertEqual(stands(editions, view([], [("odd", "b")])), [1, 3, 4])
        self.assertEqual(stands(editions, view([], ask("a", "c"))), [1, 4])
        self.assertEqual(stands(editions, view([], ask("d"))), [0, 1, 2, 3, 4])
        self.assertEqual(stands(editions, view([], [SAY, END, ("plus", 1)])), [0, 1, 2, 3, 4])

    def test_it_is_found_by_the_last_edition(self):
        ahead, last = [("a", ask("b")), ("b", [SAY])], [("a", ask("c")), ("b", [END])]
        self.assertEqual(stands([ahead, last], view([], ask("c"))), [0, 1])
        self.assertEqual(stands([ahead, last], view([], ask("a"))), [1])
        # By the edition ahead alone the word b may be used, by the last one alone the word c.
        ahead, last = [("a", [SAY]), ("b", [])], [("a", [SAY]), ("b", ask("c")), ("c", [])]
        self.assertEqual(stands([ahead, last], view([], ask("a"))), [0, 1])
        self.assertEqual(stands([last, ahead], view([], ask("a", "c"))), [1])
        middle = [("a", [SAY]), ("b", ask("c"))]
        self.assertEqual(stands([middle, last], view([], ask("b"))), [1])
        self.assertEqual(stands([last, middle], view([], ask("b"))), [1])
        self.assertEqual(stands([last, ahead, middle], view([], ask("a"), 1)), [1, 2])

    def test_what_was_used_and_the_last_edition_has_otherwise(self):
        editions = [[("a", ask("b")), ("b", [])], [("a", []), ("b", [])], [("a", [SAY]), ("b", [SAY])]]
        self.assertEqual(stands(editions[:2], view([("a", ask("b"))], ask("b"))), [0])
        self.assertEqual(stands(editions, view([("a", ask("b"))], ask("b"))), [])
        self.assertEqual(stands(editions, view([("a", ask("b"))], [SAY])), [0])
        self.assertEqual(stands(editions, view([("a", ask("b"))], ask("a"))), [])

    def test_words_that_were_used_and_may_be_used_again(self):
        editions = [[("a", ask("a"))], [("a", ask("a"))], [("a", [])]]
        self.assertEqual(stands(editions, view([("a", ask("a"))], ask("a"))), [])
        self.assertEqual(stands(editions[:2], view([("a", ask("a"))], ask("a"))), [0, 1])

    def test_any_many_steps_left(self):
        editions = [[("a", [SAY])], [("a", [SAY]), ("b", [])]]
        for many in [0, 1, 9, 10, 11, 120, 1080, 5000]:
            self.assertEqual(stands(editions, view([], [SAY] * many)), [0, 1])
            self.assertEqual(stands(editions, view([], [SAY] * many + ask("b"))), [1])
            self.assertEqual(stands(editions, view([], ask("b") + [SAY] * many)), [1])

    def test_steps_behind_an_end(self):
        editions = [[("b", [SAY])], [("a", [END, ("ask", "b")]), ("b", [])], [("a", [END, ("ask", "b")])]]
        self.assertEqual(stands(editions, view([], [END] + ask("b"))), [2])
        self.assertEqual(stands(editions, view([], [END, SAY, END] + ask("a"), 1)), [2])
        self.assertEqual(stands(editions, view([], [END, SAY, END], 1)), [1, 2])

    def test_each_sort_of_step_and_body(self):
        for body in BODIES:
            editions = [[("a", body)], [("a", list(body)), ("zz", [])], [("a", body + [SAY] if len(body) < 9 else [])]]
            self.assertEqual(stands(editions, view([("a", list(body))], list(STEPS))), [])
            self.assertEqual(stands(editions, view([("a", list(body))], [])), [0, 1])
            self.assertEqual(stands(editions[:2], view([("a", list(body))], ask("a"))), [0, 1])

    def test_words_and_names_of_any_length(self):
        for word in WORDS:
            editions = [[], [(word, [SAY])]]
            self.assertEqual(stands(editions, view([(word, [SAY])], [], 0, word)), [1])
            self.assertEqual(stands(editions, view([], ask(word), 0, word)), [1])

    def test_long_books(self):
        letters = "abcdefghijklmnopqrstuvwxyz"
        words = [one + two for one in letters for two in letters]
        book = [(word, ask(further)) for word, further in zip(words, words[1:])]
        self.assertEqual(stands([book, book + [(words[-1], [])]], view([], ask(words[0]))), [1])
        paper = judged([book, book + [(words[-1], [])], book], [view([(words[-1], [])], ask(words[0]))])
        self.assertEqual(paper.reasons, [("one", [("used", words[-1]), ("may", words), ("used", words[-1])])])


class Judged(PaperReading):

    def rightly(self, editions, views):
        """The paper that is told, which is as it must be; it shows that itself."""
        paper = judged(editions, views)
        self.right_paper(paper, editions, views)
        return paper

    def test_no_views(self):
        for editions in [[[]], [[("a", [])], []], [[]] * 40]:
            self.assertEqual(self.rightly(editions, []).witnesses, [])

    def test_let_in_turn(self):
        editions = [[("a", [SAY])], [("a", [END])], []]
        views = [view([("a", [END])], [], 0, "zoe"), view([("a", [SAY])], [], 0, "bob"),
                 view([("a", None)], ask("a"), 1, "al"), view([("a", [END])], [], 1, "cy")]
        self.assertEqual(self.rightly(editions, views).witnesses, [("zoe", 1), ("bob", 0), ("al", 2), ("cy", 1)])

    def test_let_tells_an_edition_from_the_first_one_on(self):
        editions = [[("a", [SAY])], [], [("a", [SAY])], [("a", [SAY])]]
        self.assertIn(self.rightly(editions, [view([("a", [SAY])], [], 1)]).witnesses, [[("one", 2)], [("one", 3)]])
        self.assertEqual(self.rightly(editions, [view([], ask("a"), 3)]).witnesses, [("one", 3)])

    def test_barred_tells_those_alone_for_whom_no_edition_stands(self):
        editions = [[("a", [SAY])], [("a", [END])]]
        views = [view([("a", [SAY])], [], 1, "zoe"), view([("a", [SAY])], [], 0, "bob"),
                 view([("a", [])], [], 0, "al"), view([], [], 1, "cy"), view([("a", None)], [], 1, "dan")]
        self.assertEqual(self.rightly(editions, views).reasons,
                         [("zoe", [("used", "a")]), ("al", [("used", "a"), ("used", "a")]), ("dan", [("used", "a")])])

    def test_a_reason_for_each_edition_in_turn(self):
        editions = [[("a", ask("b")), ("b", [])], [("a", [])], [("a", ask("b")), ("b", [SAY])], [("b", [END])]]
        paper = self.rightly(editions, [view([("a", ask("b"))], ask("b"))])
        (name, reasons), = paper.reasons
        self.assertEqual((name, len(reasons)), ("one", 4))
        # Against edition 1 both sorts of reason are right.
        self.assertEqual([reasons[0], reasons[2], reasons[3]], [("may", ["b"]), ("may", ["b"]), ("used", "a")])

    def test_rows_are_found_by_the_last_edition(self):
        editions = [[("a", []), ("b", ask("c")), ("c", [SAY])], [("a", []), ("b", ask("d")), ("c", []), ("d", [])],
                    [("b", ask("c")), ("c", ask("d"))]]
        paper = self.rightly(editions, [view([("a", [])], ask("b"))])
        self.assertEqual([name for name, _ in paper.reasons], ["one"])
        self.assertEqual(paper.reasons[0][1][0], ("may", ["b", "c"]))
        self.assertEqual(paper.reasons[0][1][2], ("used", "a"))

    def test_forty_editions(self):
        editions = [[("a", [("plus", at)]), ("b", ask("a"))] for at in range(40)]
        views = [view([("a", [("plus", at)])], [], first, f"{'abcdefgh'[first % 8]}{'abcde'[first // 8]}")
                 for first, at in zip(range(40), range(0, 80, 2))]
        paper = self.rightly(editions, views)
        self.assertEqual([len(reasons) for _, reasons in paper.reasons], list(range(20, 0, -1)))
        self.assertEqual([edition for _, edition in self.rightly(editions, views[:20]).witnesses],
                         list(range(0, 40, 2)))
        self.assertEqual(self.rightly(editions, [view([], ask("b"))]).witnesses, [("one", 39)])
        barred = self.rightly(editions, [view([("a", [("plus", 0)])], ask("b"))])
        self.assertEqual(barred.reasons[0][1][0], ("may", ["b", "a"]))
        self.assertEqual(barred.reasons[0][1][39], ("used", "a"))

    def test_drawn_editions_and_views(self):
        chance, sorts = random.Random(21), {Let: 0, Barred: 0}
        for _ in range(1500):
            editions = drawn_editions(chance)
            names = chance.sample(["al", "bob", "cy", "dan", "eve"], chance.choice([0, 1, 1, 1, 2, 3, 5]))
            views = [drawn_view(chance, editions, name) for name in names]
            for one in views:
                self.assertEqual(stands(editions, one), standing(editions, one))
            sorts[type(self.rightly(editions, views))] += 1
        self.assertGreater(min(sorts.values()), 300)


class NewLists(Refusing):

    EDITIONS = [[("a", ask("b")), ("b", [])], [("a", ask("b")), ("b", [SAY])]]
    LET = [("one", 0, [("a", ask("b"))], [SAY]), ("two", 1, [], ask("a"))]
    BARRED = [("one", 0, [("a", ask("b")), ("b", [])], ask("b"))]

    def test_the_kinds_that_are_told(self):
        self.assertIs(type(stands(self.EDITIONS, self.LET[0])), list)
        witnesses = judged(self.EDITIONS, self.LET).witnesses
        self.assertIs(type(witnesses), list)
        self.assertEqual({type(pair) for pair in witnesses}, {tuple})
        self.assertEqual({type(edition) for _, edition in witnesses}, {int})
        reasons = judged(self.EDITIONS, self.BARRED).reasons
        self.assertEqual(reasons, [("one", [("may", ["b"]), ("used", "b")])])
        self.assertIs(type(reasons), list)
        self.assertIs(type(reasons[0]), tuple)
        self.assertIs(type(reasons[0][1]), list)
        self.assertEqual({type(reason) for reason in reasons[0][1]}, {tuple})
        self.assertIs(type(reasons[0][1][0][1]), list)

    def test_what_is_handed_in_stays_and_what_is_told_may_be_changed(self):
        editions, views, barred = copy.deepcopy((self.EDITIONS, self.LET, self.BARRED))
        for _ in range(2):
            told = stands(editions, views[0])
            self.assertEqual(told, [0, 1])
            told.clear()
            paper = judged(editions, views)
            self.assertEqual(paper.witnesses, [("one", 0), ("two", 1)])
            paper.witnesses.clear()
            paper = judged(editions, barred)
            self.assertEqual(paper.reasons, [("one", [("may", ["b"]), ("used", "b")])])
            paper.reasons[0][1][0][1].clear()
            paper.reasons[0][1].clear()
            paper.reasons.clear()
            self.assertEqual((editions, views, barred), (self.EDITIONS, self.LET, self.BARRED))

    def test_rows_of_two_editions_are_lists_of_their_own(self):
        editions = [[("c", [])], [("c", [])], [("a", [SAY])]]
        reasons = judged(editions, [view([("c", [])], ask("a"))]).reasons[0][1]
        self.assertEqual(reasons, [("may", ["a"]), ("may", ["a"]), ("used", "c")])
        reasons[0][1].append("x")
        self.assertEqual(reasons[1], ("may", ["a"]))

    def test_what_was_told_stays(self):
        editions, views, barred = copy.deepcopy((self.EDITIONS, self.LET, self.BARRED))
        let, bars = judged(editions, views), judged(editions, barred)
        for one in views + barred:
            one[2].clear()
            one[3].clear()
        editions[0][0][1].clear()
        editions.clear()
        views.clear()
        self.assertEqual(let.witnesses, [("one", 0), ("two", 1)])
        self.assertEqual(bars.reasons, [("one", [("may", ["b"]), ("used", "b")])])
        self.assertTrue(let.shows(self.EDITIONS, self.LET))
        self.assertTrue(bars.shows(self.EDITIONS, self.BARRED))

    def test_what_is_changed_in_place_is_told_anew(self):
        editions, views = copy.deepcopy((self.EDITIONS, self.LET))
        self.assertIs(type(judged(editions, views)), Let)
        views[0][2].append(("b", [END]))
        self.assertIs(type(judged(editions, views)), Barred)
        editions[0][1][1].append(END)
        self.assertIs(type(judged(editions, views)), Let)


class NotJudged(Refusing):

    def test_no_editions(self):
        for editions in no_editions():
            self.refused(BadBook, judged, editions, [])
            self.refused(BadBook, stands, editions, ("one", 0, [], []))

    def test_no_view(self):
        for one in no_views():
            self.refused(BadCall, stands, [[], []], one)
            self.refused(BadCall, judged, [[], []], [one])
            self.refused(BadCall, judged, [[], []], [("two", 0, [], []), one])
            self.refused(BadCall, judged, [[], []], [one, ("two", 0, [], [])])

    def test_no_list_of_views(self):
        right = ("one", 0, [], [])
        for views in ODDMENTS + [0, HUGE, "", "a", (), (right,), right, {"one": right}, deep_list(), endless_list()]:
            self.refused(BadCall, judged, [[]], views)

    def test_a_first_edition_that_there_is_not(self):
        for many in [1, 2, 40, 41]:
            for first in range(-3, many + 3):
                one = ("one", first, [], [])
                if 0 <= first < many:
                    self.assertEqual(stands([[]] * many, one), list(range(first, many)))
                    self.assertEqual([name for name, _ in judged([[]] * many, [one]).witnesses], ["one"])
                else:
                    self.refused(BadCall, stands, [[]] * many, one)
                    self.refused(BadCall, judged, [[]] * many, [one])

    def test_a_name_twice(self):
        one, other, third = ("one", 0, [], []), ("one", 0, [("a", [])], [SAY]), ("two", 0, [], [])
        for views in [[one, one], [one, other], [one, third, other], [third, other, one], [one] * 12]:
            self.refused(BadCall, judged, [[]], views)

    def test_a_used_word_twice(self):
        for uses in [[("a", []), ("a", [])], [("a", None), ("a", [])], [("a", []), ("b", []), ("a", [])]]:
            self.refused(BadCall, stands, [[]], view(uses, []))
            self.refused(BadCall, judged, [[]], [view(uses, [])])

    def test_of_two_refusals_the_book_comes_first(self):
        for one in no_views():
            self.refused(BadBook, judged, [], [one])
            self.refused(BadBook, stands, [()], one)
        for editions in FEW_BAD_EDITIONS:
            self.refused(BadBook, judged, editions, None)
            self.refused(BadBook, judged, editions, [("one", 5, [], [])])
            self.refused(BadBook, judged, editions, [("one", 0, [], [])] * 2)
            self.refused(BadBook, stands, editions, None)
            self.refused(BadBook, stands, editions, ("one", 5, [], []))

    def test_what_is_refused_changes_nothing(self):
        editions, views = [[("a", [SAY])]], [("one", 0, [("a", [SAY])], ask("a")), ("one", 1, [], [])]
        self.refused(BadCall, judged, editions, views)
        self.assertEqual(editions, [[("a", [SAY])]])
        self.assertEqual(views, [("one", 0, [("a", [SAY])], ask("a")), ("one", 1, [], [])])


if __name__ == "__main__":
    unittest.main()
