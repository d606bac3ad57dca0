"""Right and wrong words, steps, bodies, books and calls that several tests share, and a second way of reckoning."""

import copy
import unittest

from midstride.papers import Barred, Let


class Refusing(unittest.TestCase):
    """Tests that ask for a refusal of one class and of no other one."""

    def refused(self, error, action, *handed):
        with self.assertRaises(error) as caught:
            action(*handed)
        self.assertIs(type(caught.exception), error)


def deep_list():
    """A list too deep to be walked through or written out by Python."""
    deep = []
    for _ in range(100000):
        deep = [deep]
    return deep


def endless_list():
    """A list that stands within itself."""
    endless = []
    endless.append(endless)
    return endless


class Prickly:
    """Something that can be neither compared nor hashed nor counted nor written out."""

    def __eq__(self, other):
        raise RuntimeError("not to be compared")

    __hash__ = None

    def __len__(self):
        raise RuntimeError("not to be counted")

    def __bool__(self):
        raise RuntimeError("not to be asked for its truth")

    def __repr__(self):
        raise RuntimeError("not to be written out")


HUGE = 10 ** 5000

# Things that are neither texts nor numbers nor lists nor tuples.
ODDMENTS = [None, True, False, b"a", {}, {"a": []}, set(), {"a"}, frozenset(), object(), print, int,
            range(0), iter(()), bytearray(b"a"), Prickly()]

WORDS = ["a", "z", "m", "ab", "azaz", "abcdefgh", "zzzzzzzz"]

NO_WORDS = ODDMENTS + ["", "abcdefghi", "a" * 100000, "A", "aB", "ABCDEFGH", "a b", " a", "a ", "a\n", "\n", "a1",
                       "1", "a-b", "a_b", "a.", "`", "{", "@", "[", "a\x00", 0, 1, -1, HUGE, [], ["a"], ("a",), (),
                       deep_list(), endless_list()]

STEPS = [("say",), ("hear",), ("end",),
         ("plus", 0), ("plus", -99), ("plus", 99), ("times", 0), ("times", -99), ("times", 99),
         ("turn", 0), ("turn", -99), ("turn", 99),
         ("ask", "a"), ("ask", "z"), ("ask", "abcdefgh"), ("odd", "a"), ("odd", "z"), ("odd", "abcdefgh")]


def ask(*words):
    """Steps that ask the words."""
    return [("ask", word) for word in words]


def no_steps():
    """What is no step: each right one spoilt in one way, and things of other kinds."""
    wrong = [(), ("",), ("Say",), ("SAY",), ("say ",), ("walk",), ("walk", 1), ("walk", "a"), ("a",), (None,), (0,),
             (True,), (b"say",), (["say"],), (("say",),), (Prickly(),), (Prickly(), 1), (None, 1), (1, "plus"),
             ("a", "ask"), "say", "ask", 0, HUGE, []]
    wrong += ODDMENTS
    for step in STEPS:
        wrong.append(list(step))
        wrong.append(step + (0,))
        wrong.append(step + ("a",))
        wrong.append(step + (None,))
    for name in ["say", "hear", "end"]:
        wrong += [(name, 1), (name, "a"), (name, None), (name, ())]
    for name in ["plus", "times", "turn"]:
        wrong.append((name,))
        wrong += [(name, part) for part in [-100, 100, HUGE, -HUGE, "1", "", "a", [], [1], (), (1,)] + ODDMENTS]
    for name in ["ask", "odd"]:
        wrong.append((name,))
        wrong += [(name, part) for part in NO_WORDS]
    return wrong


BODIES = [[]] + [[step] for step in STEPS] + [[("say",)] * 9, STEPS[:9], STEPS[9:]]


def no_bodies():
    """What is neither a body nor None."""
    wrong = [[("say",)] * 10, [("say",)] * 11, STEPS[:10], (), (("say",),), ("say",), "", "say", "say; end", 0, HUGE,
             deep_list(), endless_list()]
    wrong += [thing for thing in ODDMENTS if thing is not None]
    for step in no_steps():
        wrong.append([step])
        wrong.append([("say",), step])
        wrong.append([step, ("say",)])
    return wrong


def no_pairs():
    """What is no pair of a word and a body, nor one of a word and None."""
    wrong = [(), ("a",), ("a", [], []), ("a", [], None), ["a", []], ("a", [("say",)], ()), [], "a", "ab", 0, HUGE,
             deep_list(), endless_list(), ([], "a"), (None, [])]
    wrong += ODDMENTS
    wrong += [(word, []) for word in NO_WORDS]
    wrong += [("b", body) for body in no_bodies()]
    return wrong


def no_books():
    """What is no book."""
    wrong = ODDMENTS + [0, HUGE, "", "a", "a: say\n", (), (("a", []),), ("a", []), {"a": []}, deep_list(),
                        endless_list(),
                        [("b", []), ("a", [])], [("a", []), ("a", [])], [("a", [("say",)]), ("a", [("end",)])],
                        [("a", []), ("b", []), ("b", [])], [("a", []), ("c", []), ("b", [])],
                        [("ab", []), ("a", [])], [("b", []), ("aa", [])], [("a", []), ("b", []), ("a", [])],
                        [("a", None)], [("a", []), ("b", None)], ["a", []], [["a", []]]]
    for pair in no_pairs():
        wrong.append([pair])
        wrong.append([("a", []), pair])
        wrong.append([pair, ("zzzzzzzz", [])])
    return wrong


def no_changes():
    """What are no changes."""
    wrong = ODDMENTS + [0, HUGE, "", "a", (), (("a", []),), ("a", []), {"a": None}, deep_list(), endless_list(),
                        [("a", []), ("a", [])], [("a", []), ("a", None)], [("a", None), ("a", None)],
                        [("b", []), ("a", []), ("b", [("say",)])], ["a", None], [["a", None]]]
    for pair in no_pairs():
        wrong.append([pair])
        wrong.append([("a", None), pair])
        wrong.append([pair, ("a", None)])
    return wrong


NO_NUMBERS = ODDMENTS + ["", "1", "a", [], [1], (), (1,), deep_list(), endless_list()]

NO_HEARD = [thing for thing in ODDMENTS] + [0, 1, "", "12", (), (1, 2), [0] * 21, list(range(22)), [[]], [[1]],
                                            deep_list(), endless_list()]
NO_HEARD += [[number] for number in NO_NUMBERS] + [[1] * 19 + [number] for number in NO_NUMBERS]

NO_STRENGTHS = NO_NUMBERS + [-1, 121, 122, -120, HUGE, -HUGE]


def no_calls():
    """What is no call: other kinds, a part too few or too many, each part spoilt, and parts out of turn."""
    wrong = ODDMENTS + [0, HUGE, "", "a", [], ["a", 0, [], 0], "abcd", deep_list(), endless_list(),
                        {"a": 0, "b": 1, "c": 2, "d": 3}]
    wrong += [(), ("a",), ("a", 0), ("a", 0, []), (0, [], 0), ("a", [], 0), ("a", 0, 0), ("a", 0, [], 0, 0),
              ("a", 0, [], 0, None), ("a", 0, [], 0, "a", 1)]
    wrong += [(word, 0, [], 0) for word in NO_WORDS]
    wrong += [("a", number, [], 0) for number in NO_NUMBERS]
    wrong += [("a", 0, heard, 0) for heard in NO_HEARD]
    wrong += [("a", 0, [], strength) for strength in NO_STRENGTHS]
    wrong += [(0, "a", [], 0), ("a", [], 0, 0), ("a", 0, 0, [])]
    return wrong


def drawn_step(chance):
    """A step drawn by chance, out of few words."""
    name = chance.choice(["say", "say", "hear", "end", "plus", "times", "turn", "ask", "ask", "ask", "odd", "odd"])
    if name in ("say", "hear", "end"):
        return (name,)
    if name in ("ask", "odd"):
        return (name, chance.choice("abcdabcdabcde"))
    return (name, chance.randint(-99, 99))


def drawn_book(chance):
    """A book of few words drawn by chance; some that its steps name have no body."""
    words = [word for word in "abcd" if chance.randrange(9)]
    return [(word, [drawn_step(chance) for _ in range(chance.randrange(10))]) for word in words]


def drawn_call(chance):
    """A call drawn by chance for a drawn book; its word may have no body there."""
    heard = [chance.randint(-5, 5) for _ in range(chance.choice([0, 1, 2, 5, 20]))]
    return (chance.choice("aabcde"), chance.randint(-9, 9), heard, chance.choice([0, 1, 2, 5, 20, 119, 120]))


def drawn_changes(chance):
    """Changes of few words drawn by chance, none too."""
    words = chance.sample("abcde", chance.choice([0, 1, 1, 1, 2]))
    return [(word, chance.choice([None, [], [drawn_step(chance)], [drawn_step(chance) for _ in range(5)]]))
            for word in words]


def drawn_editions(chance):
    """Editions drawn by chance, each one a little changed from the one ahead, or the one ahead of that again."""
    editions = [drawn_book(chance)]
    while chance.randrange(4):
        bodies = dict(editions[-1]) | dict(drawn_changes(chance))
        book = [(word, bodies[word]) for word in sorted(bodies) if bodies[word] is not None]
        editions.append(copy.deepcopy(chance.choice([book, book, editions[-2:][0]])))
    return editions


def drawn_view(chance, editions, name):
    """A view drawn by chance; what was used is mostly told as one of the editions has it."""
    book = dict(chance.choice(editions))
    uses = [(word, copy.deepcopy(book.get(word))) for word in chance.sample("abcde", chance.choice([0, 1, 1, 2, 3]))]
    if not chance.randrange(9) and uses:
        uses[-1] = (uses[-1][0], chance.choice([None, [], [drawn_step(chance)]]))
    left = [drawn_step(chance) for _ in range(chance.choice([0, 0, 1, 2, 5, 30]))]
    return (name, chance.randrange(len(editions)), uses, left)


def named(steps):
    """The words that the steps name."""
    return {step[1] for step in steps if step[0] in ("ask", "odd")}


def reached(steps, book):
    """The words that the steps may use: found by taking in all bodies of those found, till they name nothing new."""
    words, more = None, named(steps)
    while more != words:
        words = more
        more = words | {further for word, body in book if word in words for further in named(body)}
    return words


def leads(row, steps, book):
    """Whether the row, of one word at least, leads on from the steps by the book."""
    bodies = dict(book)
    ahead = [steps] + [bodies.get(word, []) for word in row]
    return len(row) > 0 and all(word in named(body) for word, body in zip(row, ahead))


def alike(one, other, words):
    """Whether each of the words has the same body, or none, in both lists of pairs."""
    return all(dict(one).get(word) == dict(other).get(word) for word in words)


def standing(editions, view):
    """The editions that stand for the view."""
    _, first, uses, left = view
    used_words, later_words = [word for word, _ in uses], reached(left, editions[-1])
    return [at for at in range(first, len(editions))
            if alike(editions[at], uses, used_words) and alike(editions[at], editions[-1], later_words)]


def is_reason(reason, editions, at, view):
    """Whether the reason tells rightly why that edition doesn't stand for the view."""
    sort, told = reason
    if sort == "used":
        return told in dict(view[2]) and not alike(editions[at], view[2], [told])
    return sort == "may" and leads(told, view[3], editions[-1]) and not alike(editions[at], editions[-1], told[-1:])


class PaperReading(Refusing):
    """Tests that read papers."""

    def right_paper(self, paper, editions, views):
        """The paper is as it must be of these editions and views, and it shows that itself."""
        barring = [view for view in views if not standing(editions, view)]
        if barring:
            self.assertIs(type(paper), Barred)
            self.assertEqual([(name, len(reasons)) for name, reasons in paper.reasons],
                             [(view[0], len(editions) - view[1]) for view in barring])
            for (_, reasons), view in zip(paper.reasons, barring):
                for at, reason in enumerate(reasons, view[1]):
                    self.assertTrue(is_reason(reason, editions, at, view), (reason, at, view))
        else:
            self.assertIs(type(paper), Let)
            self.assertEqual([name for name, _ in paper.witnesses], [view[0] for view in views])
            for (_, edition), view in zip(paper.witnesses, views):
                self.assertIn(edition, standing(editions, view))
        self.assertIs(paper.shows(editions, views), True)
