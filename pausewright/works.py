"""What a program is: its works, their steps and their reckonings."""

from pausewright.asking import need_work
from pausewright.errors import BadWork
from pausewright.whole import MOST, is_whole

MOST_WORKS = 4
MOST_PARAMS = 2
MOST_SLOTS = 4
MOST_STEPS = 40
MOST_AROUND_STEP = 6
MOST_AROUND_RECKONING = 3


def need_program(program):
    """BadWork, unless this is a program."""
    if not 1 <= len(program) <= MOST_WORKS:
        raise BadWork(0)
    for number in range(len(program)):
        Look(program, number).whole_work()


def steps_in(program, work):
    """How many steps a work has, those within others too."""
    need_program(program)
    need_work(program, work)
    return len(all_steps(program[work][2]))


def all_steps(body):
    """The steps of a body, each ahead of those within it."""
    found = []
    for step in body:
        found.append(step)
        for inner in bodies_of(step):
            found.extend(all_steps(inner))
    return found


def bodies_of(step):
    """The bodies that stand straight within a step."""
    match step:
        case ("if", _, first, second):
            return (first, second)
        case ("round", _, body):
            return (body,)
        case ("try", first, None, last):
            return (first, last)
        case ("try", first, (_, body), last):
            return (first, body, last)
        case _:
            return ()


class Look:
    """A look through one work of a program, which ends with BadWork where it is none."""

    def __init__(self, program, number):
        self.program = program
        self.number = number
        self.slots = program[number][1]
        # Counted as they are met, so that no work is looked through beyond its limit.
        self.many = 0

    def need(self, holds):
        """BadWork, unless this holds."""
        if not holds:
            raise BadWork(self.number)

    def whole_work(self):
        """BadWork, unless this is a work."""
        params, slots, body = self.program[self.number]
        self.need(is_whole(slots, 1, MOST_SLOTS))
        self.need(is_whole(params, 0, min(MOST_PARAMS, slots)))
        self.body(body, 0, False)

    def body(self, steps, around, in_round):
        """BadWork, unless this is a body, with so many steps around it, a round perhaps."""
        self.need(isinstance(steps, tuple))
        for step in steps:
            self.step(step, around, in_round)

    def step(self, given, around, in_round):
        """BadWork, unless this is a step, with so many steps around it, a round perhaps."""
        self.many += 1
        self.need(self.many <= MOST_STEPS and around <= MOST_AROUND_STEP)
        match given:
            case ("set", k, e):
                self.need(k is not None)
                self.kept(k)
                self.reckoning(e, 0)
            case ("say" | "fault" | "end", e):
                self.reckoning(e, 0)
            case ("give", e, k):
                self.reckoning(e, 0)
                self.kept(k)
            case ("hand", w, args, k):
                self.handing(w, args)
                self.kept(k)
            case ("if", e, first, second):
                self.reckoning(e, 0)
                self.body(first, around + 1, in_round)
                self.body(second, around + 1, in_round)
            case ("round", e, body):
                self.reckoning(e, 0)
                self.body(body, around + 1, True)
            case ("leave",):
                self.need(in_round)
            case ("try", first, caught, last):
                self.body(first, around + 1, in_round)
                self.caught(caught, around + 1, in_round)
                self.body(last, around + 1, in_round)
            case _:
                raise BadWork(self.number)

    def caught(self, given, around, in_round):
        """BadWork, unless this is what a try may have as caught."""
        match given:
            case None:
                pass
            case (k, body):
                self.kept(k)
                self.body(body, around, in_round)
            case _:
                raise BadWork(self.number)

    def handing(self, w, args):
        """BadWork, unless there is such a later work, and it takes so many reckonings."""
        self.need(is_whole(w, self.number + 1, len(self.program) - 1))
        self.need(isinstance(args, tuple) and len(args) == self.program[w][0])
        for arg in args:
            self.reckoning(arg, 0)

    def kept(self, k):
        """BadWork, unless k is a slot, or None."""
        self.need(k is None or is_whole(k, 0, self.slots - 1))

    def reckoning(self, e, around):
        """BadWork, unless this is a reckoning, with so many reckonings around it."""
        self.need(around <= MOST_AROUND_RECKONING)
        match e:
            case ("num", n):
                self.need(is_whole(n, 0, MOST))
            case ("slot", k):
                self.need(is_whole(k, 0, self.slots - 1))
            case ("plus" | "less" | "times" | "part" | "below" | "same", first, second):
                self.reckoning(first, around + 1)
                self.reckoning(second, around + 1)
            case _:
                raise BadWork(self.number)
