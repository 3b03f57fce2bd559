"""Works are made into machines."""

from pausewright.asking import need_work
from pausewright.joining import joined_rooms
from pausewright.works import all_steps, need_program

# What is pending while a try's last is gone through, as a slot keeps it: 0 for nothing, or one of these, or an end.
FAULT = 1
SHUT = 2
LEAVE = 3
END = 4


def made(program):
    """A list of machines, one for each work."""
    need_program(program)
    return [machine_of(work) for work in program]


def most_rooms(program, work):
    """How many rooms a work's machine has at most."""
    need_program(program)
    need_work(program, work)
    more = {"round": 6, "try": 16}
    return 2 + sum([2 + more.get(step[0], 0) for step in all_steps(program[work][2])])


def matched(program, one, other):
    """True if two works' machines are the same."""
    machines = made(program)
    need_work(program, one)
    need_work(program, other)
    return machines[one] == machines[other]


def machine_of(work):
    """The machine of a work."""
    params, slots, body = work
    plan = Plan(slots)
    over = plan.room((), ("end", ("num", 0)))
    begin = plan.body(body, over, Place(None, None, None, None, slots))
    return (params, plan.slots, joined_rooms(plan.rooms, begin))


class Place:
    """Where goes what comes out of a step.

    faults is the caught of its room, shuttings the shut; leavings is a room; ends is None where an end goes out of the
    machine, else (slot for the end's number, slot for what is pending, room where a last begins). The slots from free
    on are used by nothing around the step.
    """

    def __init__(self, faults, shuttings, leavings, ends, free):
        self.faults = faults
        self.shuttings = shuttings
        self.leavings = leavings
        self.ends = ends
        self.free = free


class Plan:
    """The rooms of a machine, planned from the last step to the first, so that each knows the room behind it.

    Alike ones may be among them, and some that can't be come to.
    """

    def __init__(self, slots):
        self.slots = slots
        self.rooms = []

    def room(self, little, way, caught=None, shut=None):
        """The number of one more room."""
        self.rooms.append((little, way, caught, shut))
        return len(self.rooms) - 1

    def body(self, steps, behind, place):
        """The room where a body begins, behind which it goes on to a room."""
        begin = behind
        for step in reversed(steps):
            begin = self.step(step, begin, place)
        return begin

    def step(self, given, behind, place):
        """The room where a step begins, behind which it goes on to a room."""
        match given:
            case ("give", e, k):
                return self.room((), ("give", e, k, behind), place.faults, place.shuttings)
            case ("hand", w, args, k):
                return self.room((), ("hand", w, args, k, behind), place.faults, place.shuttings)
            case ("if", e, first, second):
                one = self.body(first, behind, place)
                other = self.body(second, behind, place)
                return self.room((), ("fork", e, one, other), place.faults)
            case ("round", e, body):
                return self.turns(e, body, behind, place)
            case ("leave",):
                return place.leavings
            case ("fault", _):
                return self.room((), given, place.faults)
            case ("end", e):
                return self.end(e, place)
            case ("try", first, caught, last):
                return self.attempt(first, caught, last, behind, place)
            case _:
                # What is left, ("set", k, e) and ("say", e), a room does as it stands.
                return self.room((given,), ("go", behind), place.faults)

    def end(self, e, place):
        """The room where a work ends, or goes to a last with an end."""
        if place.ends is None:
            return self.room((), ("end", e), place.faults)
        worth, pending, begin = place.ends
        little = (("set", worth, e), ("set", pending, ("num", END)))
        return self.room(little, ("go", begin), place.faults)

    def use(self, many):
        """The machine has so many slots at least."""
        self.slots = max(self.slots, many)

    def turns(self, e, body, behind, place):
        """The room where a round begins."""
        left = place.free
        self.use(left + 1)
        # The body leads back to it, so its number is needed ahead of its exit.
        head = self.room((), ())
        inside = Place(place.faults, place.shuttings, behind, place.ends, left + 1)
        begin = self.body(body, head, inside)
        one_less = ("set", left, ("less", ("slot", left), ("num", 1)))
        turn = self.room((one_less,), ("go", begin))
        self.rooms[head] = ((), ("fork", ("slot", left), turn, behind), None, None)
        return self.room((("count", left, e),), ("go", head), place.faults)

    def attempt(self, first, caught, last, behind, place):
        """The room where a try begins."""
        if len(last) > 0:
            behind, place = self.ahead_of_last(last, behind, place)
        if caught is None:
            return self.body(first, behind, place)
        k, body = caught
        begin = self.body(body, behind, place)
        return self.body(first, behind, Place((k, begin), place.shuttings, place.leavings, place.ends, place.free))

    def ahead_of_last(self, last, behind, place):
        """The room behind the bodies that a last follows, and where goes what comes out of their steps."""
        pending = place.free
        worth = pending + 1
        free = worth + 1
        self.use(free)
        after = self.after_last(pending, worth, behind, place)
        begin = self.body(last, after, Place(place.faults, place.shuttings, place.leavings, place.ends, free))
        caught = (worth, self.pend(pending, FAULT, begin))
        shut = self.pend(pending, SHUT, begin)
        leave = None if place.leavings is None else self.pend(pending, LEAVE, begin)
        ahead = Place(caught, shut, leave, (worth, pending, begin), free)
        return self.pend(pending, 0, begin), ahead

    def pend(self, pending, what, begin):
        """A room that goes to a last with what is pending."""
        return self.room((("set", pending, ("num", what)),), ("go", begin))

    def after_last(self, pending, worth, behind, place):
        """The room where that which is pending goes on, for nothing has come out of the last."""
        shut = self.room((), ("shut",)) if place.shuttings is None else place.shuttings
        at = self.end(("slot", worth), place)
        if place.leavings is not None:
            at = self.told_apart(pending, LEAVE, place.leavings, at)
        at = self.told_apart(pending, SHUT, shut, at)
        fault = self.room((), ("fault", ("slot", worth)), place.faults)
        at = self.told_apart(pending, FAULT, fault, at)
        return self.room((), ("fork", ("slot", pending), at, behind))

    def told_apart(self, pending, what, there, at):
        """A room that goes there, if this is what is pending, else on."""
        return self.room((), ("fork", ("same", ("slot", pending), ("num", what)), there, at))
