"""Figures: each is a whole number, how many half twists, or TURN; a row of them is a list."""

from fewchanges.fraction import flat_fraction, turned, twisted

# No figure has 0 half twists: one left without any is left out, so that 0 is free to stand for a turn.
TURN = 0


def turned_or_twisted(fraction, figure, k):
    """The fraction that comes of this one by a figure of which k half twists are changed."""
    if figure == TURN:
        return turned(fraction)
    return twisted(fraction, changed_figure(figure, k))


def changed_figure(n, k):
    """How many half twists n of them are once k are changed."""
    if n < 0:
        return n + 2 * k
    return n - 2 * k


def fraction_of(figures):
    """The fraction to which a row of figures comes."""
    fraction = flat_fraction()
    for figure in figures:
        fraction = turned_or_twisted(fraction, figure, 0)
    return fraction


def crossings_of(figures):
    """How many half twists a row of figures has, of either sign."""
    return sum([abs(figure) for figure in figures])


def changed_row(figures, way):
    """Another row, in which of each figure so many half twists are changed as the way tells."""
    row = []
    for figure, k in zip(figures, way):
        if figure == TURN:
            row.append(TURN)
        elif changed_figure(figure, k) != 0:
            row.append(changed_figure(figure, k))
    return row
