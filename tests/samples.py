"""Right and wrong words, steps and bodies that several tests share."""


def deep_list():
    """A list too deep to be walked through or written out by Python."""
    deep = []
    for _ in range(100000):
        deep = [deep]
    return deep


def endless_list():
    """A list that stands within itself."""
    endless = []
    endless.append(endless)
    return endless


class Prickly:
    """Something that can be neither compared nor hashed nor counted nor written out."""

    def __eq__(self, other):
        raise RuntimeError("not to be compared")

    __hash__ = None

    def __len__(self):
        raise RuntimeError("not to be counted")

    def __bool__(self):
        raise RuntimeError("not to be asked for its truth")

    def __repr__(self):
        raise RuntimeError("not to be written out")


HUGE = 10 ** 5000

# Things that are neither texts nor numbers nor lists nor tuples.
ODDMENTS = [None, True, False, b"a", {}, {"a": []}, set(), {"a"}, frozenset(), object(), print, int,
            range(0), iter(()), bytearray(b"a"), Prickly()]

WORDS = ["a", "z", "m", "ab", "azaz", "abcdefgh", "zzzzzzzz"]

NO_WORDS = ODDMENTS + ["", "abcdefghi", "a" * 100000, "A", "aB", "ABCDEFGH", "a b", " a", "a ", "a\n", "\n", "a1",
                       "1", "a-b", "a_b", "a.", "`", "{", "@", "[", "a\x00", 0, 1, -1, HUGE, [], ["a"], ("a",), (),
                       deep_list(), endless_list()]

STEPS = [("say",), ("hear",), ("end",),
         ("plus", 0), ("plus", -99), ("plus", 99), ("times", 0), ("times", -99), ("times", 99),
         ("turn", 0), ("turn", -99), ("turn", 99),
         ("ask", "a"), ("ask", "z"), ("ask", "abcdefgh"), ("odd", "a"), ("odd", "z"), ("odd", "abcdefgh")]


def no_steps():
    """What is no step: each right one spoilt in one way, and things of other kinds."""
    wrong = [(), ("",), ("Say",), ("SAY",), ("say ",), ("walk",), ("walk", 1), ("walk", "a"), ("a",), (None,), (0,),
             (True,), (b"say",), (["say"],), (("say",),), (Prickly(),), (Prickly(), 1), (None, 1), (1, "plus"),
             ("a", "ask"), "say", "ask", 0, HUGE, []]
    wrong += ODDMENTS
    for step in STEPS:
        wrong.append(list(step))
        wrong.append(step + (0,))
        wrong.append(step + ("a",))
        wrong.append(step + (None,))
    for name in ["say", "hear", "end"]:
        wrong += [(name, 1), (name, "a"), (name, None), (name, ())]
    for name in ["plus", "times", "turn"]:
        wrong.append((name,))
        wrong += [(name, part) for part in [-100, 100, HUGE, -HUGE, "1", "", "a", [], [1], (), (1,)] + ODDMENTS]
    for name in ["ask", "odd"]:
        wrong.append((name,))
        wrong += [(name, part) for part in NO_WORDS]
    return wrong


BODIES = [[]] + [[step] for step in STEPS] + [[("say",)] * 9, STEPS[:9], STEPS[9:]]


def no_bodies():
    """What is neither a body nor None."""
    wrong = [[("say",)] * 10, [("say",)] * 11, STEPS[:10], (), (("say",),), ("say",), "", "say", "say; end", 0, HUGE,
             deep_list(), endless_list()]
    wrong += [thing for thing in ODDMENTS if thing is not None]
    for step in no_steps():
        wrong.append([step])
        wrong.append([("say",), step])
        wrong.append([step, ("say",)])
    return wrong


def no_pairs():
    """What is no pair of a word and a body, nor one of a word and None."""
    wrong = [(), ("a",), ("a", [], []), ("a", [], None), ["a", []], ("a", [("say",)], ()), [], "a", "ab", 0, HUGE,
             deep_list(), endless_list(), ([], "a"), (None, [])]
    wrong += ODDMENTS
    wrong += [(word, []) for word in NO_WORDS]
    wrong += [("b", body) for body in no_bodies()]
    return wrong
