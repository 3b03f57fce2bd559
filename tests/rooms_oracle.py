"""Other ways to run machines, to part rooms into kinds, and to look at what machines are."""

from tests.oracle import Fault, Going, Shut, behind, outcome_of

NAMED = {"go": 1, "fork": 2, "give": 1, "hand": 1, "fault": 0, "end": 0, "shut": 0}


class TooLong(Exception):
    """A machine that doesn't come to a gift, or out, in time."""


class Out(Exception):
    """The exit ("shut",): no shut of a room takes it."""


class Running:
    """Runs machines by Python's own generators, through so many rooms at most for each deed."""

    def __init__(self, machines, most):
        self.machines = machines
        self.most = self.left = most
        self.words = []
        self.reckon = Going(None).reckon

    def machine(self, number, numbers, around=0):
        try:
            return (yield from self.rooms(number, numbers, around))
        except Out:
            raise Shut from None

    def rooms(self, number, numbers, around):
        params, many, rooms = self.machines[number]
        slots = dict(enumerate(list(numbers) + [0] * (many - params)))
        at = 0
        while True:
            self.left -= 1
            if self.left < 0 or around > 60:
                raise TooLong
            little, way, caught, shut = rooms[at]
            try:
                self.do_little(little, slots)
                if way[0] == "end":
                    return self.reckon(way[1], slots)
                at = yield from self.exit(way, slots, around)
            except Fault as fault:
                if caught is None:
                    raise
                slots[caught[0]] = fault.n
                at = caught[1]
            except Shut:
                if shut is None:
                    raise
                at = shut

    def do_little(self, little, slots):
        for word, *parts in little:
            if word == "say":
                self.words.append(self.reckon(parts[0], slots))
            else:
                n = self.reckon(parts[1], slots)
                slots[parts[0]] = n % 10 if word == "count" else n

    def exit(self, way, slots, around):
        """The room where it goes on."""
        word, *parts = way
        if word == "shut":
            raise Out
        if word == "fault":
            raise Fault(self.reckon(parts[0], slots))
        if word == "fork":
            return parts[1] if self.reckon(parts[0], slots) else parts[2]
        if word == "give":
            slots[parts[1]] = yield self.reckon(parts[0], slots)
        if word == "hand":
            w, args, k, _ = parts
            slots[k] = yield from self.machine(w, [self.reckon(e, slots) for e in args], around + 1)
        return parts[-1]


def ran(machines, work, numbers, deeds, most=2000):
    running = Running(machines, most)
    walk = running.machine(work, numbers)
    told = []
    over = False
    for at, deed in enumerate(deeds):
        running.words = []
        running.left = running.most
        if over or at == 0 and deed[0] != "ask":
            outcome = behind(deed)
        else:
            outcome = outcome_of(walk, deed, at == 0)
        over = over or outcome[0] != "gift"
        told.append((tuple(running.words), outcome))
    walk.close()
    return told


def names_of(room):
    """The rooms that a room names, in order."""
    _, way, caught, shut = room
    many = NAMED[way[0]]
    names = list(way[len(way) - many:])
    return names + [r for _, r in [caught] * (caught is not None)] + [shut] * (shut is not None)


def blank(room):
    """A room without the numbers of the rooms that it names."""
    little, way, caught, shut = room
    bare = way[:len(way) - NAMED[way[0]]]
    return (little, bare, None if caught is None else ("caught", caught[0]), shut is None)


def alike(rooms):
    """The pairs of rooms of one kind: each pair is alike until something parts it."""
    pairs = {(a, b) for a in range(len(rooms)) for b in range(len(rooms)) if blank(rooms[a]) == blank(rooms[b])}
    while True:
        kept = {(a, b) for a, b in pairs if all(pair in pairs for pair in zip(names_of(rooms[a]), names_of(rooms[b])))}
        if kept == pairs:
            return pairs
        pairs = kept


def met(rooms):
    """The rooms that can be come to, as they are met."""
    order = [0]
    for at in order:
        order += [r for i, r in enumerate(names_of(rooms[at])) if r not in order + names_of(rooms[at])[:i]]
    return order


def joined(machine):
    """A joined machine, by pairs of alike rooms."""
    params, slots, rooms = machine
    pairs = alike(rooms)
    first = [min(b for b in range(len(rooms)) if (a, b) in pairs) for a in range(len(rooms))]
    kinds = [put(room, [first[r] for r in names_of(room)]) for room in rooms]
    # Room 0 is the first of its kind, so the rooms that are met are the first of their kinds, too.
    order = met(kinds)
    return (params, slots, [put(kinds[r], [order.index(q) for q in names_of(kinds[r])]) for r in order])


def put(room, numbers):
    """The room with other numbers of rooms."""
    little, way, caught, shut = room
    numbers = list(numbers)
    way = way[:len(way) - NAMED[way[0]]] + tuple(numbers.pop(0) for _ in range(NAMED[way[0]]))
    caught = caught and (caught[0], numbers.pop(0))
    shut = None if shut is None else numbers.pop(0)
    return (little, way, caught, shut)


def need_machine(machine, works, at):
    """An AssertionError, unless this is a machine, of the kinds that the document tells."""
    assert type(machine) is tuple and len(machine) == 3
    params, slots, rooms = machine
    assert type(params) is type(slots) is int and params == works[at][0] and slots >= works[at][1]
    assert type(rooms) is list and rooms
    for room in rooms:
        assert type(room) is tuple
        need_room(room, slots, len(rooms), works, at)


def need_room(room, slots, many, works, at):
    little, way, caught, shut = room
    assert type(little) is tuple and type(way) is tuple
    for deed in little:
        assert type(deed) is tuple
        assert (deed[0], len(deed)) in (("set", 3), ("say", 2), ("count", 3)), deed
        assert deed[0] == "say" or deed[1] in range(slots) and type(deed[1]) is int
        need_reckoning(deed[-1], slots)
    parts = {"go": "r", "fork": "err", "give": "ekr", "hand": "wakr", "fault": "e", "end": "e", "shut": ""}
    assert len(way) == 1 + len(parts[way[0]]), way
    for kind, part in zip(parts[way[0]], way[1:]):
        if kind == "r":
            need_number(part, many)
        elif kind == "k":
            assert part is None or need_number(part, slots)
        elif kind == "e":
            need_reckoning(part, slots)
        elif kind == "w":
            assert need_number(part, len(works)) and part > at
        else:
            assert type(part) is tuple and len(part) == works[way[1]][0]
            for e in part:
                need_reckoning(e, slots)
    if caught is not None:
        k, r = caught
        assert type(caught) is tuple and (k is None or need_number(k, slots)) and need_number(r, many)
    assert shut is None or need_number(shut, many)


def need_number(n, many):
    assert type(n) is int and n in range(many), n
    return True


def need_reckoning(e, slots):
    assert type(e) is tuple
    if e[0] == "num":
        assert len(e) == 2 and need_number(e[1], 1000)
    elif e[0] == "slot":
        assert len(e) == 2 and need_number(e[1], slots)
    else:
        assert e[0] in ("plus", "less", "times", "part", "below", "same") and len(e) == 3
        need_reckoning(e[1], slots)
        need_reckoning(e[2], slots)


def need_told(machine, works, at, most):
    """An AssertionError, unless this holds what point 10 tells of a told machine."""
    need_machine(machine, works, at)
    rooms = machine[2]
    assert met(rooms) == list(range(len(rooms))), "the numbers are not those of a walk from room 0"
    assert all(little or way[0] != "go" for little, way, _, _ in rooms), "a room goes on without doing anything"
    assert parted(rooms) == len(rooms), "two rooms are alike"
    assert len(rooms) <= most, "too many rooms"


def parted(rooms):
    """How many kinds there are: as `alike` parts them, but quicker."""
    marks = [blank(room) for room in rooms]
    many = 0
    while len(set(marks)) > many:
        many = len(set(marks))
        numbers = {mark: n for n, mark in enumerate(sorted(set(marks), key=repr))}
        marks = [(numbers[mark], *[numbers[marks[r]] for r in names_of(room)]) for mark, room in zip(marks, rooms)]
    return many
