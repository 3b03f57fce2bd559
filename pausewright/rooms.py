"""The numbers of rooms within a room: (little, exit, caught, shut)."""

# How many rooms an exit names, behind all else in it.
NAMED = {"go": 1, "fork": 2, "give": 1, "hand": 1}


def named(room):
    """The rooms that a room names, in order: its exit's, then caught's, then shut's."""
    _, way, caught, shut = room
    found = list(way[cut_of(way):])
    if caught is not None:
        found.append(caught[1])
    if shut is not None:
        found.append(shut)
    return found


def renamed(room, numbers):
    """The room with other numbers of rooms, as many and in the same order as named tells."""
    little, way, caught, shut = room
    cut = cut_of(way)
    many = len(way) - cut
    way = way[:cut] + tuple(numbers[:many])
    if caught is not None:
        caught = (caught[0], numbers[many])
    if shut is not None:
        shut = numbers[-1]
    return (little, way, caught, shut)


def cut_of(way):
    """Where the rooms begin that an exit names."""
    return len(way) - NAMED.get(way[0], 0)
