"""Fractions: pairs of an upper and a lower whole number that have nothing in common, the lower one 0 or more."""

FLAT = (0, 1)
ENDLESS = (1, 0)


def twisted(fraction, n):
    """The fraction that comes of this one by n half twists (the endless one stays as it is)."""
    return (fraction[0] + n * fraction[1], fraction[1])


def turned(fraction):
    """The fraction that comes of this one by a turn: turned over, with the other sign."""
    upper = fraction[0]
    lower = fraction[1]
    if upper == 0:
        return ENDLESS
    # The sign is kept above, so that the lower number is never below 0.
    if upper < 0:
        return (lower, -upper)
    return (-lower, upper)
