"""Fractions: pairs of an upper and a lower whole number that have nothing in common, the lower one 0 or more."""


def flat_fraction():
    """The fraction to which two strings come before there is any figure."""
    return (0, 1)


def is_fraction(upper, lower):
    """Whether these two numbers, the lower one 0 or more, are a fraction as it is told."""
    if lower == 0:
        return upper == 1
    return nothing_in_common(abs(upper), lower)


def nothing_in_common(one, other):
    """Whether two whole numbers, both 0 or more, have no divisor in common but 1."""
    while other > 0:
        rest = one % other
        one = other
        other = rest
    return one == 1


def twisted(fraction, n):
    """The fraction that comes of this one by n half twists (the endless one stays as it is)."""
    return (fraction[0] + n * fraction[1], fraction[1])


def turned(fraction):
    """The fraction that comes of this one by a turn: turned over, with the other sign."""
    upper = fraction[0]
    lower = fraction[1]
    if upper == 0:
        # The endless one has one sign alone, so the lower number does not come above here.
        return (1, 0)
    # The sign is kept above, so that the lower number is never below 0.
    if upper < 0:
        return (lower, -upper)
    return (-lower, upper)
