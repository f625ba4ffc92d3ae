"""Rings: what two strings close to at the sides, as pairs of a size and a share."""

APART = (0, 0)


def size_of(fraction):
    """The size of the ring to which two strings of a fraction close, 0 for two rings apart."""
    return abs(fraction[0])


def ring_of(fraction):
    """The ring to which two strings of a fraction close."""
    size = size_of(fraction)
    if size == 0:
        return APART
    if fraction[0] < 0:
        return (size, -fraction[1] % size)
    return (size, fraction[1] % size)


def other_share(size, share):
    """The number below the size that, times the share, leaves 1 by the size; 0 if the size is 1."""
    upper = size
    lower = share
    # By the size, upper is always upper_times the share and lower is lower_times the share.
    upper_times = 0
    lower_times = 1
    while lower > 0:
        whole = upper // lower
        rest = upper - whole * lower
        rest_times = upper_times - whole * lower_times
        upper = lower
        upper_times = lower_times
        lower = rest
        lower_times = rest_times
    return upper_times % size


def name_of(ring):
    """The name of a ring: its size, and the lesser one of both its shares."""
    if ring == APART:
        return APART
    return (ring[0], min(ring[1], other_share(ring[0], ring[1])))
