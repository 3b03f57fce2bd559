"""Programs, machines and deeds by a chance that is the same each time."""

from random import Random

from tests.rooms_oracle import names_of, put

TWO = ("plus", "less", "times", "part", "below", "same")


class Chance:
    def __init__(self, seed):
        self.random = Random(seed)
        self.left = 0

    def pick(self, *things):
        return self.random.choice(things)

    def number(self):
        return self.pick(0, 0, 1, 1, 2, 3, 5, 9, 10, 12, 500, 998, 999)

    def reckoning(self, slots, around=0):
        if around == 3 or self.random.random() < 0.6:
            if self.random.random() < 0.5:
                return ("slot", self.random.randrange(slots))
            return ("num", self.number())
        return (self.pick(*TWO), self.reckoning(slots, around + 1), self.reckoning(slots, around + 1))

    def kept(self, slots):
        return self.pick(None, self.random.randrange(slots))

    def program(self, works=None):
        many = works or self.random.randint(1, 4)
        sizes = []
        for _ in range(many):
            slots = self.random.randint(1, 4)
            sizes.append((self.random.randint(0, min(2, slots)), slots))
        return [self.work(sizes, at) for at in range(many)]

    def work(self, sizes, at):
        self.left = self.random.randint(1, 40)
        self.sizes, self.at = sizes, at
        body = self.body(sizes[at][1], 0, False, 6)
        return (*sizes[at], body)

    def body(self, slots, around, in_round, most=4):
        steps = []
        for _ in range(self.random.randint(0, most)):
            if self.left == 0:
                break
            self.left -= 1
            steps.append(self.step(slots, around, in_round))
        return tuple(steps)

    def step(self, slots, around, in_round):
        words = ["set", "set", "say", "say", "give", "give", "give", "give", "fault", "end"]
        words += ["leave"] * 2 * in_round
        words += ["hand"] * 3 * (self.at + 1 < len(self.sizes))
        if around < 6:
            words += ["if", "round", "try", "try", "try", "try"]
        word = self.pick(*words)
        if word in ("if", "round", "try"):
            return self.step_with_bodies(word, slots, around + 1, in_round)
        if word == "set":
            return (word, self.random.randrange(slots), self.reckoning(slots))
        if word == "give":
            return (word, self.reckoning(slots), self.kept(slots))
        if word == "hand":
            w = self.random.randrange(self.at + 1, len(self.sizes))
            args = tuple(self.reckoning(slots) for _ in range(self.sizes[w][0]))
            return (word, w, args, self.kept(slots))
        return (word,) if word == "leave" else (word, self.reckoning(slots))

    def step_with_bodies(self, word, slots, around, in_round):
        if word == "if":
            e = self.reckoning(slots)
            return (word, e, self.body(slots, around, in_round), self.body(slots, around, in_round))
        if word == "round":
            return (word, ("num", self.pick(0, 1, 2, 3, 12)), self.body(slots, around, True))
        first = self.body(slots, around, in_round)
        caught = None
        if self.random.random() < 0.6:
            caught = (self.kept(slots), self.body(slots, around, in_round))
        return (word, first, caught, self.body(slots, around, in_round))

    def machines(self, most_rooms=8):
        """Machines as somebody may type them; they may not come to anything in time."""
        sizes = []
        for _ in range(self.random.randint(1, 3)):
            slots = self.random.randint(1, 6)
            sizes.append((self.random.randint(0, min(2, slots)), slots))
        return [(*size, self.rooms(sizes, size[1], most_rooms)) for size in sizes]

    def rooms(self, sizes, slots, most):
        many = self.random.randint(1, most)
        return [self.room(sizes, slots, many) for _ in range(many)]

    def room(self, sizes, slots, many):
        little = tuple(self.little(slots) for _ in range(self.random.randint(0, 2)))
        caught = None if self.random.random() < 0.4 else (self.kept(slots), self.random.randrange(many))
        shut = None if self.random.random() < 0.4 else self.random.randrange(many)
        return (little, self.exit(sizes, slots, many), caught, shut)

    def little(self, slots):
        word = self.pick("set", "count", "say")
        e = self.reckoning(slots)
        return (word, e) if word == "say" else (word, self.random.randrange(slots), e)

    def exit(self, sizes, slots, many):
        word = self.pick("go", "go", "fork", "fork", "give", "give", "give", "give", "hand", "fault", "end", "shut")
        rooms = [self.random.randrange(many) for _ in range({"go": 1, "fork": 2, "give": 1, "hand": 1}.get(word, 0))]
        if word == "hand":
            w = self.random.randrange(len(sizes))
            args = tuple(self.reckoning(slots) for _ in range(sizes[w][0]))
            return (word, w, args, self.kept(slots), *rooms)
        parts = [self.reckoning(slots)] * (word in ("fork", "give", "fault", "end"))
        return (word, *parts, *[self.kept(slots)] * (word == "give"), *rooms)

    def copied(self, machine):
        """The same machine with some rooms more than once, in another order, some that can't be come to with them."""
        params, slots, rooms = machine
        copies = [at for at in range(len(rooms)) for _ in range(self.random.randint(1, 3))]
        self.random.shuffle(copies)
        copies.insert(0, 0)
        places = {at: [place for place, of in enumerate(copies) if of == at] for at in range(len(rooms))}
        told = []
        for at in copies:
            told.append(put(rooms[at], [self.random.choice(places[r]) for r in names_of(rooms[at])]))
        return (params, slots, told)

    def numbers(self, many):
        return tuple(self.number() for _ in range(many))

    def deeds(self):
        many = self.random.randint(0, 12)
        deeds = [self.deed("ask", "ask", "ask", "throw", "shut") for _ in range(many)]
        return [("ask", self.number()), *deeds] if self.random.random() < 0.9 else deeds

    def deed(self, *words):
        word = self.pick(*words)
        return (word,) if word == "shut" else (word, self.number())
