"""How calls are written and answers are read, and rates counted by heads: what all the tests share."""

import unittest
from fractions import Fraction

from twogroups.choice import answers

LARGEST = 4294967295


def begin(k):
    return [0, k]


def count(g, s, y, n):
    return [1, g, s, y, n]


def rule(g, row):
    return [2, g, len(row)] + row


def rate(q, g):
    return [3, q, g]


def alike(q):
    return [4, q]


def gap(q):
    return [5, q]


def which():
    return [6]


def best():
    return [7]


def take():
    return [8]


def above(g, s):
    return [9, g, s]


def cell(g, s):
    return [10, g, s]


def people(g):
    return [11, g]


def ifpick(g, s, q):
    return [12, g, s, q]


def state():
    return [13]


def line(calls):
    """The calls one behind another, as they are handed in."""
    assert len(calls) <= 40
    return [number for call in calls for number in call]


def split(told):
    """The answers one by one, each without how many numbers it has."""
    parts = []
    at = 0
    while at < len(told):
        end = at + 1 + told[at]
        assert end <= len(told)
        parts.append(told[at + 1:end])
        at = end
    return parts


def ask(*calls):
    """One answer for each call, on an object that is new."""
    parts = split(answers(line(calls)))
    assert len(parts) == len(calls)
    return parts


def last(*calls):
    """The answer to the last call."""
    return ask(*calls)[-1]


def seen(before, *calls):
    """The answers to the calls that come behind those before."""
    return ask(*before, *calls)[len(before):]


def filled(cells, rows=None):
    """The calls by which a table is there: for each group its pairs of so and not so, and its row."""
    k = len(cells[0])
    calls = [begin(k)] + [count(g, s, *cells[g][s]) for g in range(2) for s in range(k)]
    if rows is not None:
        calls += [rule(g, list(rows[g])) for g in range(2)]
    return calls


def look():
    """Calls that show the rates."""
    rates = [rate(q, g) for q in range(7) for g in range(2)]
    return rates + [which()]


def show():
    """Calls that show all that is kept: beyond the last score there are refusals."""
    cells = [cell(g, s) for g in range(2) for s in range(5)]
    return [state(), people(0), people(1)] + cells


class Keeping(unittest.TestCase):
    """What a call leaves as it was."""

    def kept(self, before, calls):
        """The answers to the calls, behind which all that can be seen is as if they hadn't been there."""
        end = len(before) + len(calls)
        for shown in (look(), show()):
            told = ask(*before, *calls, *shown)
            self.assertEqual(told[:len(before)] + told[end:], ask(*before, *shown), calls)
        return told[len(before):end]

    def refused(self, before, call, number):
        """The call is answered by the number alone, and changes nothing."""
        self.assertEqual(self.kept(before, [call]), [[number]], call)


def told_of(heads, wanted, among):
    """Of the people among whom we look, the share of those who are wanted; None if there are none."""
    those = [head for head in heads if among(head)]
    if not those:
        return None
    return Fraction(len([head for head in those if wanted(head)]), len(those))


def by_heads(cells, row):
    """The seven rates of a group, counted person by person: each is (chosen, turned out so)."""
    heads = []
    for (y, n), mark in zip(cells, row):
        heads += [(mark == 1, True)] * y + [(mark == 1, False)] * n
    return [
        told_of(heads, lambda p: p[1], lambda p: True),
        told_of(heads, lambda p: p[0], lambda p: True),
        told_of(heads, lambda p: p[0], lambda p: p[1]),
        told_of(heads, lambda p: p[0], lambda p: not p[1]),
        told_of(heads, lambda p: p[1], lambda p: p[0]),
        told_of(heads, lambda p: not p[1], lambda p: not p[0]),
        told_of(heads, lambda p: p[0] == p[1], lambda p: True),
    ]


def written_fraction(fraction):
    return [-33] if fraction is None else [0, fraction.numerator, fraction.denominator]
