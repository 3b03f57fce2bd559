"""Short ways to write programs down in the tests."""

SAY0 = ("say", ("num", 0))


def num(n):
    return ("num", n)


def slot(k):
    return ("slot", k)


def say(n):
    return ("say", ("num", n))


def give(n, k=None):
    return ("give", ("num", n), k)


def fault(n):
    return ("fault", ("num", n))


def end(n):
    return ("end", ("num", n))


def alone(*steps, params=0, slots=4):
    """A program of one work with these steps."""
    return [(params, slots, steps)]


def ask(n=0):
    return ("ask", n)


def throw(n):
    return ("throw", n)


SHUT = ("shut",)
NO_PART = ("part", ("num", 1), ("num", 0))


def within(step, many):
    """The step with so many others around it."""
    for _ in range(many):
        step = ("if", ("num", 1), (step,), ())
    return step


def deep_reckoning(around):
    """A reckoning in which the innermost has so many around it."""
    e = ("num", 1)
    for _ in range(around):
        e = ("plus", e, ("num", 1))
    return e
