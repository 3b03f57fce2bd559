"""Machines are run, room by room."""

from pausewright.asking import asked, need_ask
from pausewright.reckoning import NoPart, reckoned


def ran(machines, work, numbers, deeds):
    """What a machine tells for each deed: the words that were said by it, and its outcome."""
    need_ask(machines, work, numbers, deeds)
    return asked(deeds, lambda asker: Run(machines, asker).whole(work, numbers))


class Run:
    """A way through machines that hand on to one another.

    What comes out of a machine is ("fault", n), ("end", n) or ("shut",); None tells that nothing has come out yet.
    """

    def __init__(self, machines, asker):
        self.machines = machines
        self.asker = asker
        # Each was handed to by the one ahead of it. No calls, for typed machines may hand to themselves, deeper than
        # calls go.
        self.stays = []

    def begin(self, work, numbers):
        """A machine is gone through from its beginning on."""
        self.stays.append(Stay(self.machines[work], numbers))

    def whole(self, work, numbers):
        """What comes out of a machine."""
        self.begin(work, numbers)
        while True:
            came = self.room(self.stays[-1])
            while came is not None:
                self.stays.pop()
                if len(self.stays) == 0:
                    return came
                came = self.stays[-1].back(came)

    def room(self, stay):
        """What comes out of a machine by the room where it is."""
        little, way = stay.rooms[stay.at][:2]
        try:
            for deed in little:
                self.little(stay, deed)
            return self.way(stay, way)
        except NoPart:
            return stay.meet(("fault", 0))

    def little(self, stay, deed):
        """A little deed is done; NoPart where a fault comes by its reckoning."""
        match deed:
            case ("set", k, e):
                stay.keep(k, stay.reckon(e))
            case ("count", k, e):
                stay.keep(k, stay.reckon(e) % 10)
            case ("say", e):
                self.asker.say(stay.reckon(e))

    def way(self, stay, given):
        """What comes out of a machine by an exit; NoPart where a fault comes by a reckoning of it."""
        match given:
            case ("go", r):
                stay.at = r
            case ("fork", e, r, q):
                stay.at = r if stay.reckon(e) != 0 else q
            case ("give", e, k, r):
                return self.give(stay, stay.reckon(e), k, r)
            case ("hand", w, args, k, r):
                stay.then = (k, r)
                self.begin(w, [stay.reckon(arg) for arg in args])
            case ("fault", e):
                return stay.meet(("fault", stay.reckon(e)))
            case ("end", e):
                return ("end", stay.reckon(e))
            case ("shut",):
                return ("shut",)
        return None

    def give(self, stay, gift, k, r):
        """What comes out of a machine by a gift, by what the asker does then."""
        deed = self.asker.take(gift)
        if deed[0] == "ask":
            return stay.go(k, deed[1], r)
        return stay.meet(("fault", deed[1]) if deed[0] == "throw" else ("shut",))


class Stay:
    """A machine under way: its slots, and the room where it is."""

    def __init__(self, machine, numbers):
        params, slots, rooms = machine
        self.rooms = rooms
        self.slots = list(numbers) + [0] * (slots - params)
        self.at = 0
        # Where it goes on behind a machine that it hands to, and the slot for the number.
        self.then = None

    def reckon(self, e):
        """The number that a reckoning comes to; NoPart where the fault 0 comes."""
        return reckoned(e, self.slots)

    def keep(self, k, n):
        """A number comes into a slot, if there is one for it."""
        if k is not None:
            self.slots[k] = n

    def go(self, k, n, r):
        """On to a room, with a number for a slot; nothing comes out by this."""
        self.keep(k, n)
        self.at = r
        return None

    def back(self, came):
        """What comes out by what has come out of the machine that it handed to."""
        if came[0] != "end":
            return self.meet(came)
        k, r = self.then
        return self.go(k, came[1], r)

    def meet(self, came):
        """What comes out by a fault or a shutting that comes in the room where it is."""
        caught, shut = self.rooms[self.at][2:]
        if came[0] == "shut":
            return came if shut is None else self.go(None, 0, shut)
        if caught is None:
            return came
        k, r = caught
        return self.go(k, came[1], r)
