"""Rings: what two strings close to at the sides, as pairs of a size and a share."""

from fewchanges.fraction import nothing_in_common


def size_of(fraction):
    """The size of the ring to which two strings of a fraction close, 0 for two rings apart."""
    return abs(fraction[0])


def ring_of(fraction):
    """The ring to which two strings of a fraction close."""
    size = size_of(fraction)
    if size == 0:
        return (0, 0)
    if fraction[0] < 0:
        return (size, -fraction[1] % size)
    return (size, fraction[1] % size)


def other_share(size, share):
    """The number below the size that, times the share, leaves 1 by the size; 0 if the size is 1."""
    upper = size
    lower = share
    # By the size, upper is always upper_times the share and lower is lower_times the share.
    upper_times = 0
    lower_times = 1
    while lower > 0:
        whole = upper // lower
        rest = upper - whole * lower
        rest_times = upper_times - whole * lower_times
        upper = lower
        upper_times = lower_times
        lower = rest
        lower_times = rest_times
    return upper_times % size


def name_of(ring):
    """The name of a ring: its size, and the lesser one of both its shares."""
    if ring[0] == 0:
        return (0, 0)
    return (ring[0], min(ring[1], other_share(ring[0], ring[1])))


def names_of(fractions):
    """The names of the rings to which these fractions close, each once, as they first come."""
    names = {}
    for fraction in fractions:
        names[name_of(ring_of(fraction))] = True
    return list(names)


def is_ring(size, share):
    """Whether these two numbers, both 0 or more, are a size and a share that a ring can have."""
    if size == 0:
        return share == 0
    return share < size and nothing_in_common(size, share)


def is_undone_by_one(ring):
    """Whether a ring is undone by one change in some drawing."""
    size = ring[0]
    # Of an even size there are two rings, and one of size 1 is undone already.
    if size % 2 == 0 or size == 1:
        return False
    shares = (ring[1], size - ring[1])
    for product in ((size - 1) // 2, (size + 1) // 2):
        for n in bare_divisors(product):
            if 2 * n * n % size in shares:
                return True
    return False


def bare_divisors(product):
    """The divisors of a product that have nothing in common with what they are to be multiplied by."""
    divisors = [n for n in range(1, product + 1) if product % n == 0]
    return [n for n in divisors if nothing_in_common(product // n, n)]
