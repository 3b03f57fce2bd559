"""What may be asked of works or machines, and the asker, who goes along the deeds of one play."""

from pausewright.errors import BadAsk
from pausewright.whole import MOST, is_whole


class Over(Exception):
    """Nothing is gone through any more: no deed is left, or the shutting met a gift."""


def need_work(works, work):
    """BadAsk, unless work is the number of one of the works (or machines)."""
    if not is_whole(work, 0, len(works) - 1):
        raise BadAsk("there is no such work")


def need_ask(works, work, numbers, deeds):
    """BadAsk, unless the work (or machine) can be played with these numbers and deeds."""
    need_work(works, work)
    params = works[work][0]
    if len(numbers) != params:
        raise BadAsk("another count of numbers")
    for n in numbers:
        if not is_whole(n, 0, MOST):
            raise BadAsk("a number that can't be handed in")
    for deed in deeds:
        if not is_deed(deed):
            raise BadAsk("a deed that is none")


def is_deed(deed):
    """True if an asker can do this."""
    match deed:
        case ("ask" | "throw", n):
            return is_whole(n, 0, MOST)
        case ("shut",):
            return True
        case _:
            return False


def asked(deeds, gone_through):
    """What is told for each deed; gone_through takes an asker, and returns what has come out at last."""
    asker = Asker(deeds)
    if asker.begins():
        try:
            asker.see_out(gone_through(asker))
        except Over:
            pass
    asker.do_the_rest()
    return asker.told


class Asker:
    """Does one deed after another, and keeps what is told for each."""

    def __init__(self, deeds):
        self.deeds = deeds
        self.told = []
        self.words = []

    def begins(self):
        """True if the first deed is one that goes through anything."""
        return len(self.deeds) > 0 and self.deeds[0][0] == "ask"

    def say(self, word):
        """A word that is said by the deed under way."""
        self.words.append(word)

    def tell(self, outcome):
        """The outcome of the deed under way; the next one is under way then."""
        self.told.append((tuple(self.words), outcome))
        self.words = []

    def deed(self):
        """The deed under way."""
        return self.deeds[len(self.told)]

    def take(self, gift):
        """Take a gift, and do the next deed, which is returned; Over where that can't be."""
        if self.deed()[0] == "shut":
            self.tell(("stubborn",))
            raise Over()
        self.tell(("gift", gift))
        if len(self.told) == len(self.deeds):
            raise Over()
        return self.deed()

    def see_out(self, came):
        """What has come out at last: an end, a fault or the shutting."""
        if came[0] == "end" and self.deed()[0] == "shut":
            self.tell(("shut",))
        else:
            self.tell(came)

    def do_the_rest(self):
        """The deeds that are left, where nothing is gone through (any more)."""
        done = len(self.told)
        for deed in self.deeds[done:]:
            if deed[0] == "ask":
                self.tell(("over",))
            elif deed[0] == "throw":
                self.tell(("fault", deed[1]))
            else:
                self.tell(("shut",))
