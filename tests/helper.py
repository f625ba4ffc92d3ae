"""Calls by their names, and their answers one by one."""

from fewchanges.strings import answers

NUMBER_OF = {
    "start": 0, "twist": 1, "turn": 2, "off": 3, "comes": 4, "ring": 5, "crossings": 6, "change": 7,
    "undone": 8, "split": 9, "flat": 10, "to": 11, "closes": 12, "ways": 13, "results": 14, "rings": 15,
    "way": 16, "do": 17, "bound": 18, "figures": 19, "state": 20,
}
TURN = "turn"


def call(text):
    """A call from a text such as 'twist 3'."""
    words = text.split()
    return [NUMBER_OF[words[0]]] + [int(word) for word in words[1:]]


def cut(told):
    """The answers one by one, from the one list in which each stands behind its count."""
    parts = []
    at = 0
    while at < len(told):
        end = at + 1 + told[at]
        assert told[at] >= 1 and end <= len(told), told
        parts.append(told[at + 1:end])
        at = end
    return parts


def ask(*texts):
    """The answers of these calls, on one new object."""
    calls = []
    for text in texts:
        calls += call(text)
    parts = cut(answers(calls))
    assert len(parts) == len(texts), parts
    return parts


def drawn(row):
    """The calls that draw a row of whole numbers and TURN, from a start on."""
    return ["start"] + [figure if figure == TURN else f"twist {figure}" for figure in row]


def behind(row, *texts):
    """The answers of these calls alone, behind the ones that draw the row."""
    return ask(*drawn(row), *texts)[len(row) + 1:]
