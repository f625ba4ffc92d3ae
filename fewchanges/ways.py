"""Ways: tuples that tell of each figure how many of its half twists are changed."""

from fewchanges.figures import crossings_of, turned_or_twisted
from fewchanges.fraction import flat_fraction

MOST_CHANGES = 4


def ways_with_fractions(figures, t):
    """Each way of t changes, in order, in a pair with the fraction that comes of it."""
    rest = crossings_of(figures)
    if t > rest:
        return []
    begun = [((), flat_fraction(), t)]
    for figure in figures:
        rest = rest - abs(figure)
        begun = longer_ways(begun, figure, rest)
    return [(way, fraction) for way, fraction, left in begun]


def fractions_by_ways(figures, t):
    """The fraction that comes of each way of t changes, in the order of the ways."""
    return [fraction for way, fraction in ways_with_fractions(figures, t)]


def longer_ways(begun, figure, rest):
    """The begun ways, each led on by every number of changes of one more figure.

    A begun way stands with its fraction and the changes that are left. As many as the rest, the half
    twists behind this figure, can still be made later: so none is led on that could not be ended.
    """
    longer = []
    for way, fraction, left in begun:
        most = min(abs(figure), left)
        fewest = max(0, left - rest)
        # More changes come first in the order of ways.
        for k in range(most, fewest - 1, -1):
            longer.append((way + (k,), turned_or_twisted(fraction, figure, k), left - k))
    return longer


def first_of_fewest(figures, is_wished):
    """The first way of the fewest changes whose fraction is wished, or None if 4 changes are too few."""
    for t in range(MOST_CHANGES + 1):
        for way, fraction in ways_with_fractions(figures, t):
            if is_wished(fraction):
                return way
    return None
