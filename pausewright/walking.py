"""Works are played by going through their trees."""

from pausewright.asking import asked, need_ask
from pausewright.reckoning import NoPart, reckoned
from pausewright.works import need_program


def played(program, work, numbers, deeds):
    """What a work tells for each deed: the words that were said by it, and its outcome."""
    need_program(program)
    need_ask(program, work, numbers, deeds)
    return asked(deeds, lambda asker: walked(program, work, numbers, asker))


def walked(program, work, numbers, asker):
    """What comes out of a work: ("end", n), ("fault", n) or ("shut",)."""
    params, slots, body = program[work]
    walk = Walk(program, list(numbers) + [0] * (slots - params), asker)
    came = walk.body(body)
    return ("end", 0) if came is None else came


class Walk:
    """A way through the tree of one work, with its slots.

    What comes out of a step or a body is None (nothing), ("fault", n), ("end", n), ("leave",) or ("shut",).
    """

    def __init__(self, program, slots, asker):
        self.program = program
        self.slots = slots
        self.asker = asker

    def keep(self, k, n):
        """A number comes into a slot, if there is one for it."""
        if k is not None:
            self.slots[k] = n

    def reckon(self, e):
        """The number that a reckoning comes to; NoPart where the fault 0 comes."""
        return reckoned(e, self.slots)

    def body(self, steps):
        """What comes out of a body."""
        for step in steps:
            came = self.outcome(step)
            if came is not None:
                return came
        return None

    def outcome(self, step):
        """What comes out of a step, by its reckonings too."""
        try:
            return self.step(step)
        except NoPart:
            # It is this step's own: those within it have made theirs into faults.
            return ("fault", 0)

    def step(self, given):
        """What comes out of a step; NoPart where a fault comes by a reckoning of it."""
        match given:
            case ("set", k, e):
                self.keep(k, self.reckon(e))
            case ("say", e):
                self.asker.say(self.reckon(e))
            case ("give", e, k):
                return self.give(self.reckon(e), k)
            case ("hand", w, args, k):
                return self.hand(w, [self.reckon(arg) for arg in args], k)
            case ("if", e, first, second):
                return self.body(first if self.reckon(e) != 0 else second)
            case ("round", e, body):
                return self.go_round(self.reckon(e) % 10, body)
            case ("leave",):
                return ("leave",)
            case ("fault", e):
                return ("fault", self.reckon(e))
            case ("end", e):
                return ("end", self.reckon(e))
            case ("try", first, caught, last):
                return self.attempt(first, caught, last)
        return None

    def give(self, gift, k):
        """What comes out of a gift, by what the asker does then."""
        deed = self.asker.take(gift)
        if deed[0] == "ask":
            self.keep(k, deed[1])
            return None
        return ("fault", deed[1]) if deed[0] == "throw" else ("shut",)

    def hand(self, w, numbers, k):
        """What comes out of a handing to another work."""
        came = walked(self.program, w, numbers, self.asker)
        if came[0] != "end":
            return came
        self.keep(k, came[1])
        return None

    def go_round(self, times, body):
        """What comes out of a round."""
        for _ in range(times):
            came = self.body(body)
            if came == ("leave",):
                return None
            if came is not None:
                return came
        return None

    def attempt(self, first, caught, last):
        """What comes out of a try."""
        came = self.body(first)
        if caught is not None and came is not None and came[0] == "fault":
            k, body = caught
            self.keep(k, came[1])
            came = self.body(body)
        after = self.body(last)
        return came if after is None else after
