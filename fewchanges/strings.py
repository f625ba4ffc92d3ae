"""The calls on two strings, and what each of them answers."""

from fewchanges.closing import name_of, ring_of, size_of
from fewchanges.drawing import Drawing
from fewchanges.figures import TURN, changed_row, crossings_of, fraction_of
from fewchanges.fraction import FLAT
from fewchanges.ways import first_of_fewest

MOST_FIGURES = 10
MOST_HALF_TWISTS = 6

NO_SUCH_FIGURE = -2
NOTHING_THERE = -6
NOT_STARTED = -11
NOT_AS_TOLD = -22
TOO_MANY_FIGURES = -28
NOT_BY_SO_FEW = -33

START = 0

# How many numbers each call hands over, by the call's number.
HANDED = (0, 1, 0, 0, 0, 0, 0, 2, 0, 0, 0, 2, 2, 1, 1, 1, 0, 0, 0, 0, 0)


def told_fraction(drawing):
    """0, then the fraction to which all figures come."""
    return [0] + list(fraction_of(drawing.figures))


def one_more_figure(drawing, figure):
    """The answer of twist and turn, once the figure itself is as told."""
    if len(drawing.figures) == MOST_FIGURES:
        return [TOO_MANY_FIGURES]
    drawing.redraw(drawing.figures + [figure])
    return told_fraction(drawing)


def answer_start(drawing, numbers):
    """start ()"""
    drawing.started = True
    drawing.redraw([])
    return [0]


def answer_twist(drawing, numbers):
    """twist (n)"""
    n = numbers[0]
    if n == 0 or abs(n) > MOST_HALF_TWISTS:
        return [NOT_AS_TOLD]
    return one_more_figure(drawing, n)


def answer_turn(drawing, numbers):
    """turn ()"""
    return one_more_figure(drawing, TURN)


def answer_off(drawing, numbers):
    """off ()"""
    if len(drawing.figures) == 0:
        return [NOTHING_THERE]
    drawing.redraw(drawing.figures[:-1])
    return [len(drawing.figures)]


def answer_comes(drawing, numbers):
    """comes ()"""
    return told_fraction(drawing)


def answer_ring(drawing, numbers):
    """ring ()"""
    return [0] + list(name_of(ring_of(fraction_of(drawing.figures))))


def answer_crossings(drawing, numbers):
    """crossings ()"""
    return [crossings_of(drawing.figures)]


def answer_change(drawing, numbers):
    """change (i, k)"""
    i = numbers[0]
    k = numbers[1]
    if i >= len(drawing.figures):
        return [NO_SUCH_FIGURE]
    if k > abs(drawing.figures[i]):
        return [NOT_AS_TOLD]
    way = [0] * len(drawing.figures)
    way[i] = k
    drawing.redraw(changed_row(drawing.figures, way))
    return told_fraction(drawing)


def keep_fewest(drawing, is_wished):
    """How few changes bring what is wished; the first way of so many is kept."""
    drawing.way = first_of_fewest(drawing.figures, is_wished)
    if drawing.way is None:
        return [NOT_BY_SO_FEW]
    return [sum(drawing.way)]


def answer_undone(drawing, numbers):
    """undone ()"""
    return keep_fewest(drawing, lambda fraction: size_of(fraction) == 1)


def answer_split(drawing, numbers):
    """split ()"""
    return keep_fewest(drawing, lambda fraction: size_of(fraction) == 0)


def answer_flat(drawing, numbers):
    """flat ()"""
    return keep_fewest(drawing, lambda fraction: fraction == FLAT)


ANSWERED_BY = {
    0: answer_start,
    1: answer_twist,
    2: answer_turn,
    3: answer_off,
    4: answer_comes,
    5: answer_ring,
    6: answer_crossings,
    7: answer_change,
    8: answer_undone,
    9: answer_split,
    10: answer_flat,
}


def answer(drawing, number, numbers):
    """What one call answers, with the numbers that it hands over."""
    if number != START and not drawing.started:
        return [NOT_STARTED]
    if number not in ANSWERED_BY:
        raise NotImplementedError(f"call {number} is not there yet")
    return ANSWERED_BY[number](drawing, numbers)


def answers(calls):
    """What all calls of a list answer, one behind another, each behind the count of its numbers."""
    drawing = Drawing()
    told = []
    at = 0
    while at < len(calls):
        number = calls[at]
        end = at + 1 + HANDED[number]
        one = answer(drawing, number, calls[at + 1:end])
        told.append(len(one))
        told.extend(one)
        at = end
    return told
