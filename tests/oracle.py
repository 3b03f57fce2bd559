"""Another way to play, by Python's own generators: what the program says of a try is what Python does."""

WORDS = {
    "plus": lambda a, b: (a + b) % 1000,
    "less": lambda a, b: (a - b) % 1000,
    "times": lambda a, b: a * b % 1000,
    "part": lambda a, b: a // b,
    "below": lambda a, b: int(a < b),
    "same": lambda a, b: int(a == b),
}


class Fault(Exception):
    def __init__(self, n):
        super().__init__(n)
        self.n = n


class End(Exception):
    def __init__(self, n):
        super().__init__(n)
        self.n = n


class Leave(Exception):
    pass


class Shut(Exception):
    """The shutting. (Python's own closing does not come out of `yield from` as the document asks.)"""


class Going:
    def __init__(self, program):
        self.program = program
        self.words = []
        self.dropped = False

    def reckon(self, e, slots):
        if e[0] == "num":
            return e[1]
        if e[0] == "slot":
            return slots[e[1]]
        one, other = self.reckon(e[1], slots), self.reckon(e[2], slots)
        try:
            return WORDS[e[0]](one, other)
        except ZeroDivisionError:
            raise Fault(0) from None

    def work(self, number, numbers):
        params, slots, body = self.program[number]
        slots = dict(enumerate(list(numbers) + [0] * (slots - params)))
        try:
            yield from self.body(body, slots)
        except End as end:
            return end.n
        return 0

    def body(self, body, slots):
        for step in body:
            yield from getattr(self, "do_" + step[0])(slots, *step[1:])

    def do_set(self, slots, k, e):
        slots[k] = self.reckon(e, slots)
        yield from ()

    def do_say(self, slots, e):
        self.words.append(self.reckon(e, slots))
        yield from ()

    def do_give(self, slots, e, k):
        slots[k] = yield self.reckon(e, slots)

    def do_hand(self, slots, w, args, k):
        slots[k] = yield from self.work(w, [self.reckon(e, slots) for e in args])

    def do_if(self, slots, e, first, second):
        yield from self.body(first if self.reckon(e, slots) else second, slots)

    def do_round(self, slots, e, body):
        try:
            for _ in range(self.reckon(e, slots) % 10):
                yield from self.body(body, slots)
        except Leave:
            pass

    def do_leave(self, slots):
        raise Leave
        yield

    def do_fault(self, slots, e):
        raise Fault(self.reckon(e, slots))
        yield

    def do_end(self, slots, e):
        raise End(self.reckon(e, slots))
        yield

    def do_try(self, slots, body, caught, last):
        try:
            try:
                yield from self.body(body, slots)
            except Fault as fault:
                if caught is None:
                    raise
                slots[caught[0]] = fault.n
                yield from self.body(caught[1], slots)
        finally:
            if not self.dropped:
                yield from self.body(last, slots)


def outcome_of(walk, deed, first):
    """The outcome of a deed for a work that is not over."""
    try:
        if deed[0] == "ask":
            return ("gift", walk.send(None if first else deed[1]))
        if deed[0] == "throw":
            return ("gift", walk.throw(Fault(deed[1])))
        walk.throw(Shut())
        return ("stubborn",)
    except StopIteration as stop:
        return ("shut",) if deed[0] == "shut" else ("end", stop.value)
    except Fault as fault:
        return ("fault", fault.n)
    except Shut:
        return ("shut",)


def behind(deed):
    """The outcome of a deed where nothing is gone through."""
    return {"ask": ("over",), "throw": ("fault", deed[-1]), "shut": ("shut",)}[deed[0]]


def played(program, work, numbers, deeds):
    going = Going(program)
    walk = going.work(work, numbers)
    told = []
    over = False
    for at, deed in enumerate(deeds):
        going.words = []
        if over or at == 0 and deed[0] != "ask":
            outcome = behind(deed)
        else:
            outcome = outcome_of(walk, deed, at == 0)
        over = over or outcome[0] != "gift"
        told.append((tuple(going.words), outcome))
    going.dropped = True
    walk.close()
    return told
