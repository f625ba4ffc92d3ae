"""Calls by their names, their answers one by one, and what they should be by trying every choice of crossings."""

from itertools import combinations

from fewchanges.strings import answers

NUMBER_OF = {
    "start": 0, "twist": 1, "turn": 2, "off": 3, "comes": 4, "ring": 5, "crossings": 6, "change": 7,
    "undone": 8, "split": 9, "flat": 10, "to": 11, "closes": 12, "ways": 13, "results": 14, "rings": 15,
    "way": 16, "do": 17, "bound": 18, "figures": 19, "state": 20,
}
TURN = "turn"


def call(text):
    """A call from a text such as 'twist 3'."""
    words = text.split()
    return [NUMBER_OF[words[0]]] + [int(word) for word in words[1:]]


def cut(told):
    """The answers one by one, from the one list in which each stands behind its count."""
    parts = []
    at = 0
    while at < len(told):
        end = at + 1 + told[at]
        assert told[at] >= 1 and end <= len(told), told
        parts.append(told[at + 1:end])
        at = end
    return parts


def ask(*texts):
    """The answers of these calls, on one new object."""
    calls = []
    for text in texts:
        calls += call(text)
    parts = cut(answers(calls))
    assert len(parts) == len(texts), parts
    return parts


def drawn(row):
    """The calls that draw a row of whole numbers and TURN, from a start on."""
    return ["start"] + [figure if figure == TURN else f"twist {figure}" for figure in row]


def behind(row, *texts):
    """The answers of these calls alone, behind the ones that draw the row."""
    return ask(*drawn(row), *texts)[len(row) + 1:]


def way_behind(row, *texts):
    """The way that is kept behind these calls on the row, or None if none is."""
    told = behind(row, *texts, "way")[-1]
    if told == [-6]:
        return None
    assert told[0] == len(told) - 1, told
    return told[1:]


def crossings_one_by_one(row):
    """The row with each half twist apart, as pairs of its figure and its sign (0 for a turn)."""
    apart = []
    for i, figure in enumerate(row):
        if figure == TURN:
            apart.append((i, 0))
        else:
            apart += [(i, 1 if figure > 0 else -1)] * abs(figure)
    return apart


def fraction_by(apart, chosen):
    """The fraction once the chosen crossings go the other way, worked out half twist by half twist."""
    upper, lower = 0, 1
    for place, (i, sign) in enumerate(apart):
        if sign == 0:
            upper, lower = -lower, upper
        else:
            upper += -sign * lower if place in chosen else sign * lower
    return (-upper, -lower) if lower < 0 or (lower == 0 and upper < 0) else (upper, lower)


def every_choice(row, t):
    """A dict of each way of t changes, in order, with its fraction, from all choices of t crossings."""
    apart = crossings_one_by_one(row)
    places = [place for place, (i, sign) in enumerate(apart) if sign != 0]
    found = {}
    for chosen in combinations(places, t):
        changed = [apart[place][0] for place in chosen]
        way = tuple(changed.count(i) for i in range(len(row)))
        fraction = fraction_by(apart, set(chosen))
        assert found.setdefault(way, fraction) == fraction, (row, way)
    return dict(sorted(found.items(), reverse=True))


def slowly(row, is_wished):
    """The fewest changes and the first way, of all choices of crossings."""
    for t in range(5):
        for way, fraction in every_choice(row, t).items():
            if is_wished(fraction):
                return t, list(way)
    return -33, None


def slow_name(fraction):
    """The name of the ring to which a fraction closes, from all numbers below its size."""
    size = abs(fraction[0])
    if size == 0:
        return (0, 0)
    share = (fraction[1] if fraction[0] > 0 else -fraction[1]) % size
    others = [other for other in range(size) if other * share % size == 1 % size]
    assert len(others) == 1, fraction
    return (size, min(share, others[0]))
