"""Alike rooms of a machine are joined."""

from pausewright.rooms import named, renamed


def joined(machine):
    """The machine with one room for each kind that can be come to, numbered as they are met."""
    params, slots, rooms = machine
    return (params, slots, joined_rooms(rooms, 0))


def joined_rooms(rooms, begin):
    """One room for each kind that can be come to from a room, which is room 0 then."""
    kinds = kinds_of(rooms)
    # The first room of each kind that is met stands for all of them.
    met = [begin]
    numbers = {kinds[begin]: 0}
    at = 0
    while at < len(met):
        names = named(rooms[met[at]])
        for r in names:
            if kinds[r] not in numbers:
                numbers[kinds[r]] = len(met)
                met.append(r)
        at += 1
    places = [numbers.get(kind) for kind in kinds]
    return [with_places(rooms[r], places) for r in met]


def with_places(room, places):
    """The room with the place of each room that it names."""
    return renamed(room, [places[r] for r in named(room)])


def kinds_of(rooms):
    """The kind of each room: as few kinds as can be."""
    kinds = numbered([shape(room) for room in rooms])
    while True:
        finer = numbered([kind_by_rooms(kinds, r, room) for r, room in enumerate(rooms)])
        if finer == kinds:
            return kinds
        kinds = finer


def kind_by_rooms(kinds, r, room):
    """The kind of a room so far, and those of the rooms that it names."""
    return (kinds[r], *[kinds[q] for q in named(room)])


def shape(room):
    """What is the same in two rooms that are the same but for numbers of rooms."""
    # A text, for no key of a dict may be as deep as a room.
    return repr(renamed(room, [0] * len(named(room))))


def numbered(marks):
    """A number for each mark, the same for the same marks, in the order in which they come first."""
    numbers = {}
    for mark in marks:
        numbers.setdefault(mark, len(numbers))
    return [numbers[mark] for mark in marks]
