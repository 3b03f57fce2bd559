"""What reckonings come to."""

WRAP = 1000


class NoPart(Exception):
    """A part by 0: the fault 0 comes."""


def reckoned(e, slots):
    """The number that a reckoning comes to, over these slots; NoPart where the fault 0 comes."""
    if e[0] == "num":
        return e[1]
    if e[0] == "slot":
        return slots[e[1]]
    word, first, second = e
    one = reckoned(first, slots)
    other = reckoned(second, slots)
    return reckoned_of_two(word, one, other)


def reckoned_of_two(word, one, other):
    """The number that a word makes of two numbers; NoPart where the fault 0 comes."""
    match word:
        case "plus":
            return (one + other) % WRAP
        case "less":
            return (one - other) % WRAP
        case "times":
            return (one * other) % WRAP
        case "part":
            if other == 0:
                raise NoPart()
            return one // other
        case "below":
            # A number, for True and False are none.
            return 1 if one < other else 0
        case _:
            return 1 if one == other else 0
