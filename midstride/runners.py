"""What goes through a call, step by step."""

from midstride.steps import copied


class Runner:
    """A call under way, or over.

    It is made of a call that was checked, and of bodies by their words, which nobody may change from then on.
    `said` is what it has said, `taken` how many steps it has taken, and `ended` how its call has
    ended: a tuple, empty while it is under way.
    """

    def __init__(self, bodies, call):
        word, in_hand, heard, strength = call
        self.bodies = bodies
        self.in_hand = in_hand
        self.heard = list(heard)
        self.strength = strength
        self.taken = 0
        self.said = []
        self.ended = ()
        # What it has used, with the body of each word, or None, as first used.
        self.uses = {}
        # The steps that are left in each body that it has begun, the one begun last standing last.
        self.begun = []
        self.use(word)
        self.settle()

    def go_by(self, bodies):
        """Use these bodies from now on; those that it has begun it goes through as begun."""
        self.bodies = bodies

    def take_step(self):
        """Take one step, which it may only while it is under way; told is what it says with it."""
        before = len(self.said)
        step = self.begun[-1].pop(0)
        self.taken += 1
        self.act(step)
        self.settle()
        return self.said[before:]

    def act(self, step):
        """Do what the step asks for."""
        name = step[0]
        if name == "say":
            self.said.append(self.in_hand)
        elif name == "hear":
            self.hear()
        elif name == "end":
            self.begun[-1].clear()
        elif name == "plus":
            self.in_hand = self.in_hand + step[1]
        elif name == "times":
            self.in_hand = self.in_hand * step[1]
        elif name == "turn":
            self.in_hand = step[1] - self.in_hand
        elif name == "ask":
            self.use(step[1])
        elif name == "odd" and self.in_hand % 2 == 1:
            self.use(step[1])

    def hear(self):
        """Take the next heard number in hand, or end the call."""
        if self.heard:
            self.in_hand = self.heard.pop(0)
        else:
            self.ended = ("deaf",)

    def use(self, word):
        """Begin the word's body, or end the call if it has none."""
        body = self.bodies.get(word)
        if word not in self.uses:
            self.uses[word] = body
        if body is None:
            self.ended = ("lost", word)
        else:
            # Copied, since its steps are taken out of it one by one.
            self.begun.append(list(body))

    def settle(self):
        """Behind the beginning or a step: go back to what isn't gone through, or end the call."""
        if self.ended:
            return
        while self.begun and not self.begun[-1]:
            self.begun.pop()
        if not self.begun:
            self.ended = ("done", self.in_hand)
        elif self.taken >= self.strength:
            self.ended = ("spent",)

    def leave_off(self):
        """Be dropped."""
        self.ended = ("dropped",)

    def told_uses(self):
        """What it has used: pairs of a word and its body, or None, in the turn of their first use."""
        return copied(list(self.uses.items()))

    def steps_left(self):
        """The steps that are left in all bodies, those of the body begun last first."""
        return [step for steps in reversed(self.begun) for step in steps]
