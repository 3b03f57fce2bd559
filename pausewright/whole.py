"""Whole numbers within limits."""

MOST = 999


def is_whole(n, low, high):
    """True if n is a whole number from low to high."""
    # True and False would pass as 1 and 0.
    return isinstance(n, int) and not isinstance(n, bool) and low <= n <= high
