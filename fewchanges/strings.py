"""The calls on two strings, and what each of them answers."""

from fewchanges.closing import is_ring, is_undone_by_one, name_of, names_of, ring_of, size_of
from fewchanges.drawing import Drawing
from fewchanges.figures import TURN, changed_row, crossings_of, fraction_of
from fewchanges.fraction import flat_fraction, is_fraction
from fewchanges.ways import MOST_CHANGES, first_of_fewest, fractions_by_ways

MOST_FIGURES = 10
MOST_HALF_TWISTS = 6
MOST_OF_A_FRACTION = 9999
MOST_SIZE = 400

NO_SUCH_FIGURE = -2
NOTHING_THERE = -6
NOT_STARTED = -11
NOT_AS_TOLD = -22
TOO_MANY_FIGURES = -28
NOT_BY_SO_FEW = -33

START = 0

# How many numbers each call hands over, by the call's number.
HANDED = (0, 1, 0, 0, 0, 0, 0, 2, 0, 0, 0, 2, 2, 1, 1, 1, 0, 0, 0, 0, 0)


def told_fraction(drawing):
    """0, then the fraction to which all figures come."""
    return [0] + list(fraction_of(drawing.figures))


def one_more_figure(drawing, figure):
    """The answer of twist and turn, once the figure itself is as told."""
    if len(drawing.figures) == MOST_FIGURES:
        return [TOO_MANY_FIGURES]
    drawing.redraw(drawing.figures + [figure])
    return told_fraction(drawing)


def answer_start(drawing, numbers):
    """start ()"""
    drawing.started = True
    drawing.redraw([])
    return [0]


def answer_twist(drawing, numbers):
    """twist (n)"""
    n = numbers[0]
    if n == 0 or abs(n) > MOST_HALF_TWISTS:
        return [NOT_AS_TOLD]
    return one_more_figure(drawing, n)


def answer_turn(drawing, numbers):
    """turn ()"""
    return one_more_figure(drawing, TURN)


def answer_off(drawing, numbers):
    """off ()"""
    if len(drawing.figures) == 0:
        return [NOTHING_THERE]
    drawing.redraw(drawing.figures[:-1])
    return [len(drawing.figures)]


def answer_comes(drawing, numbers):
    """comes ()"""
    return told_fraction(drawing)


def answer_ring(drawing, numbers):
    """ring ()"""
    return [0] + list(name_of(ring_of(fraction_of(drawing.figures))))


def answer_crossings(drawing, numbers):
    """crossings ()"""
    return [crossings_of(drawing.figures)]


def answer_change(drawing, numbers):
    """change (i, k)"""
    i = numbers[0]
    k = numbers[1]
    if i >= len(drawing.figures):
        return [NO_SUCH_FIGURE]
    if k > abs(drawing.figures[i]):
        return [NOT_AS_TOLD]
    way = [0] * len(drawing.figures)
    way[i] = k
    drawing.redraw(changed_row(drawing.figures, way))
    return told_fraction(drawing)


def keep_fewest(drawing, is_wished):
    """How few changes bring what is wished; the first way of so many is kept."""
    drawing.way = first_of_fewest(drawing.figures, is_wished)
    if drawing.way is None:
        return [NOT_BY_SO_FEW]
    return [sum(drawing.way)]


def answer_undone(drawing, numbers):
    """undone ()"""
    return keep_fewest(drawing, lambda fraction: size_of(fraction) == 1)


def answer_split(drawing, numbers):
    """split ()"""
    return keep_fewest(drawing, lambda fraction: size_of(fraction) == 0)


def answer_flat(drawing, numbers):
    """flat ()"""
    flat = flat_fraction()
    return keep_fewest(drawing, lambda fraction: fraction == flat)


def answer_to(drawing, numbers):
    """to (p, q)"""
    p = numbers[0]
    q = numbers[1]
    if abs(p) > MOST_OF_A_FRACTION or q > MOST_OF_A_FRACTION or not is_fraction(p, q):
        return [NOT_AS_TOLD]
    wished = (p, q)
    return keep_fewest(drawing, lambda fraction: fraction == wished)


def answer_closes(drawing, numbers):
    """closes (p, q)"""
    size = numbers[0]
    share = numbers[1]
    if size > MOST_SIZE or not is_ring(size, share):
        return [NOT_AS_TOLD]
    wished = name_of((size, share))
    return keep_fewest(drawing, lambda fraction: name_of(ring_of(fraction)) == wished)


def answer_ways(drawing, numbers):
    """ways (t)"""
    t = numbers[0]
    if t > MOST_CHANGES:
        return [NOT_AS_TOLD]
    return [len(fractions_by_ways(drawing.figures, t))]


def answer_results(drawing, numbers):
    """results (t)"""
    t = numbers[0]
    if t > MOST_CHANGES:
        return [NOT_AS_TOLD]
    return [len(set(fractions_by_ways(drawing.figures, t)))]


def answer_rings(drawing, numbers):
    """rings (t)"""
    t = numbers[0]
    if t > MOST_CHANGES:
        return [NOT_AS_TOLD]
    names = names_of(fractions_by_ways(drawing.figures, t))
    told = [len(names)]
    for name in names:
        told.extend(list(name))
    return told


def answer_way(drawing, numbers):
    """way ()"""
    if drawing.way is None:
        return [NOTHING_THERE]
    return [len(drawing.way)] + list(drawing.way)


def answer_do(drawing, numbers):
    """do ()"""
    if drawing.way is None:
        return [NOTHING_THERE]
    drawing.redraw(changed_row(drawing.figures, drawing.way))
    return told_fraction(drawing)


def answer_bound(drawing, numbers):
    """bound ()"""
    ring = ring_of(fraction_of(drawing.figures))
    if ring[0] == 1:
        return [0]
    if is_undone_by_one(ring):
        return [1]
    return [2]


def answer_figures(drawing, numbers):
    """figures ()"""
    return [len(drawing.figures)] + drawing.figures


def answer_state(drawing, numbers):
    """state ()"""
    kept = 0 if drawing.way is None else 1
    return [len(drawing.figures), crossings_of(drawing.figures), kept]


ANSWERED_BY = {
    0: answer_start,
    1: answer_twist,
    2: answer_turn,
    3: answer_off,
    4: answer_comes,
    5: answer_ring,
    6: answer_crossings,
    7: answer_change,
    8: answer_undone,
    9: answer_split,
    10: answer_flat,
    11: answer_to,
    12: answer_closes,
    13: answer_ways,
    14: answer_results,
    15: answer_rings,
    16: answer_way,
    17: answer_do,
    18: answer_bound,
    19: answer_figures,
    20: answer_state,
}


def answer(drawing, number, numbers):
    """What one call answers, with the numbers that it hands over."""
    if number != START and not drawing.started:
        return [NOT_STARTED]
    return ANSWERED_BY[number](drawing, numbers)


def answers(calls):
    """What all calls of a list answer, one behind another, each behind the count of its numbers."""
    drawing = Drawing()
    told = []
    at = 0
    while at < len(calls):
        number = calls[at]
        end = at + 1 + HANDED[number]
        one = answer(drawing, number, calls[at + 1:end])
        told.append(len(one))
        told.extend(one)
        at = end
    return told
