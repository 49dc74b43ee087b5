"""How calls are written and answers are read: what all the tests share."""

from twogroups.choice import answers

LARGEST = 4294967295


def begin(k):
    return [0, k]


def count(g, s, y, n):
    return [1, g, s, y, n]


def rule(g, row):
    return [2, g, len(row)] + row


def rate(q, g):
    return [3, q, g]


def alike(q):
    return [4, q]


def gap(q):
    return [5, q]


def which():
    return [6]


def line(calls):
    """The calls one behind another, as they are handed in."""
    assert len(calls) <= 40
    return [number for call in calls for number in call]


def split(told):
    """The answers one by one, each without how many numbers it has."""
    parts = []
    at = 0
    while at < len(told):
        end = at + 1 + told[at]
        assert end <= len(told)
        parts.append(told[at + 1:end])
        at = end
    return parts


def ask(*calls):
    """One answer for each call, on an object that is new."""
    parts = split(answers(line(calls)))
    assert len(parts) == len(calls)
    return parts


def look():
    """Calls that show all of a state that these calls can show."""
    rates = [rate(q, g) for q in range(7) for g in range(2)]
    return rates + [which()]


def last(*calls):
    """The answer to the last call."""
    return ask(*calls)[-1]
