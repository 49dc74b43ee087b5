"""The whole program: all calls mixed, against the same told of single people, and what the document says holds."""

import unittest
from fractions import Fraction
from itertools import product

from written import (LARGEST, Keeping, above, alike, ask, begin, best, by_heads, cell, count, filled, gap, ifpick, look,
                     people, rate, rule, seen, show, state, take, which, written_fraction)


class Refusal(Exception):
    def __init__(self, number):
        super().__init__(number)
        self.number = number


def due(number, wrong):
    if wrong:
        raise Refusal(number)


class Heads:
    """One object, told otherwise than in the program: by pairs that are there, and by rates counted by heads."""

    def __init__(self):
        self.k = None

    def answer(self, call):
        calls = [self.begin, self.count, self.rule, self.rate, self.alike, self.gap, self.which, self.best, self.take,
                 self.above, self.cell, self.people, self.ifpick, self.state]
        try:
            due(-11, call[0] != 0 and self.k is None)
            return calls[call[0]](*call[1:])
        except Refusal as refusal:
            return [refusal.number]

    def places(self, g):
        return [(g, s) for s in range(self.k)]

    def row(self, g, chosen=None):
        chosen = self.chosen if chosen is None else chosen
        return [int(place in chosen) for place in self.places(g)]

    def rates(self, g, chosen=None):
        return by_heads([self.cells[place] for place in self.places(g)], self.row(g, chosen))

    def chosen_of(self, g):
        return [sum(sum(self.cells[place]) for place in self.places(g) if place in self.chosen)]

    def begin(self, k):
        due(-22, k not in (1, 2, 3, 4))
        self.k = k
        self.cells = {place: (0, 0) for g in (0, 1) for place in self.places(g)}
        self.chosen = set()
        return [0]

    def count(self, g, s, y, n):
        due(-2, (g, s) not in self.cells)
        due(-22, max(y, n) > 99)
        self.cells[(g, s)] = (y, n)
        return [y + n]

    def rule(self, g, length, *row):
        due(-2, g not in (0, 1))
        due(-22, length != self.k or not set(row) <= {0, 1})
        self.chosen = ({place for place in self.chosen if place[0] != g}
                       | {(g, s) for s in range(self.k) if row[s] == 1})
        return self.chosen_of(g)

    def rate(self, q, g):
        due(-2, g not in (0, 1))
        due(-22, q not in range(7))
        return written_fraction(self.rates(g)[q])

    def both(self, q):
        due(-22, q not in range(7))
        pair = [self.rates(g)[q] for g in (0, 1)]
        due(-33, None in pair)
        return pair

    def alike(self, q):
        return [int(len(set(self.both(q))) == 1)]

    def gap(self, q):
        first, second = self.both(q)
        return written_fraction(first - second)

    def which(self, chosen=None):
        pairs = list(zip(self.rates(0, chosen), self.rates(1, chosen)))
        kinds = [q for q in range(7) if None not in pairs[q] and len(set(pairs[q])) == 1]
        return [len(kinds)] + kinds

    def ranked(self):
        """All rules that are to be looked at, the best and first one at the end."""
        rules = []
        for marks in product((1, 0), repeat=2 * self.k):
            chosen = {place for place, mark in zip(self.cells, marks) if mark}
            shares = [self.rates(g, chosen)[1] for g in (0, 1)]
            if None not in shares and all(0 < share < 1 for share in shares):
                rules.append((len([q for q in self.which(chosen)[1:] if q != 0]), chosen))
        due(-33, not rules)
        return sorted(rules, key=lambda pair: pair[0])

    def best(self):
        kinds, chosen = self.ranked()[-1]
        return [kinds] + self.row(0, chosen) + self.row(1, chosen)

    def take(self):
        kinds, self.chosen = self.ranked()[-1]
        return [kinds]

    def above(self, g, s):
        due(-2, (g, s) not in self.cells)
        return self.rule(g, self.k, *[0] * s, *[1] * (self.k - s))

    def cell(self, g, s):
        due(-2, (g, s) not in self.cells)
        return list(self.cells[(g, s)])

    def people(self, g):
        due(-2, g not in (0, 1))
        pairs = [self.cells[place] for place in self.places(g)]
        return [sum(y + n for y, n in pairs), sum(y for y, n in pairs)]

    def ifpick(self, g, s, q):
        due(-2, (g, s) not in self.cells)
        due(-22, q not in range(7))
        return written_fraction(self.rates(g, self.chosen ^ {(g, s)})[q])

    def state(self):
        return [self.k] + self.row(0) + self.row(1)


class Numbers:
    """Numbers that go about widely, and are the same each time."""

    def __init__(self, seed):
        self.at = seed

    def below(self, end):
        self.at = (self.at * 6364136223846793005 + 1442695040888963407) % 2 ** 64
        return (self.at >> 33) % end

    def of(self, values):
        return values[self.below(len(values))]

    def group(self):
        return self.of([0, 1] * 10 + [2, LARGEST])

    def score(self, k):
        return self.of(list(range(k)) * 4 + [k, LARGEST])

    def many(self):
        return self.of([0, 0, 1, 1, 2, 3, 4, 6, 0, 0, 1, 1, 2, 3, 4, 6, 99, 100, LARGEST])

    def kind(self):
        return self.of(list(range(7)) * 3 + [7, LARGEST])

    def row(self, k):
        length = self.of([k] * 8 + [0, k - 1, k + 1, 255])
        row = [self.below(2) for mark in range(length)]
        if row and self.below(8) == 0:
            row[self.below(length)] = self.of([2, LARGEST])
        return row

    def call(self, number, k):
        return [lambda: begin(self.of([2, 3, 4, 1, 0, 5, LARGEST])),
                lambda: count(self.group(), self.score(k), self.many(), self.many()),
                lambda: rule(self.group(), self.row(k)),
                lambda: rate(self.kind(), self.group()),
                lambda: alike(self.kind()), lambda: gap(self.kind()), which, best, take,
                lambda: above(self.group(), self.score(k)),
                lambda: cell(self.group(), self.score(k)),
                lambda: people(self.group()),
                lambda: ifpick(self.group(), self.score(k), self.kind()), state][number]()

    def line(self):
        """At most 40 calls: some ahead of a begin, then more counts and rules than others."""
        k = 2 + self.below(3)
        calls = [self.call(self.below(14), k) for ahead in range(self.below(3))] + [begin(k)]
        while len(calls) < 40:
            number = self.of([1] * 16 + [2] * 3 + list(range(1, 14)) * 2 + [0])
            calls.append(self.call(number, k))
            if number == 0 and 1 <= calls[-1][1] <= 4:
                k = calls[-1][1]
        return calls


class Mixed(unittest.TestCase):
    refusals = {0: {-22}, 1: {-2, -22}, 2: {-2, -22}, 3: {-2, -22, -33}, 4: {-22, -33}, 5: {-22, -33}, 6: set(),
                7: {-33}, 8: {-33}, 9: {-2}, 10: {-2}, 11: {-2}, 12: {-2, -22, -33}, 13: set()}

    def same(self, calls):
        """The answers, which are the same as those of single people."""
        heads = Heads()
        told = ask(*calls)
        for at, call in enumerate(calls):
            self.assertEqual(told[at], heads.answer(call), (at, calls))
        return told

    def test_all_calls(self):
        numbers = Numbers(2)
        met = {number: set() for number in range(14)}
        for times in range(150):
            calls = numbers.line()
            for call, answer in zip(calls, self.same(calls)):
                met[call[0]].add(min(answer[0], 0))
        # Each call was answered, was refused in each way that it can be, and, but for begin, came ahead of a begin.
        for number, refusals in self.refusals.items():
            self.assertEqual(met[number], refusals | {0} | (set() if number == 0 else {-11}), number)

    def test_one_line_of_all(self):
        calls = [state(), best(), begin(5), people(0), begin(2), count(0, 0, 2, 6), count(0, 1, 3, 1),
                 count(1, 0, 2, 2), count(1, 1, 1, 3), above(0, 1), rule(1, [1, 0]), state(), rate(4, 0),
                 ifpick(0, 0, 4), which(), alike(5), gap(1), best(), take(), state(), which(), cell(1, 1),
                 people(1), begin(1), state(), cell(1, 1), best(), begin(0), above(1, 0), state()]
        self.assertEqual(self.same(calls), [
            [-11], [-11], [-22], [-11], [0], [8], [4], [4], [4], [4], [4], [2, 0, 1, 1, 0], [0, 3, 4], [0, 5, 12],
            [1, 5], [1], [0, -1, 6], [1, 0, 1, 1, 0], [1], [2, 0, 1, 1, 0], [1, 5], [1, 3], [8, 3], [0], [1, 0, 0],
            [-2], [-33], [-22], [0], [1, 0, 1]])

    def test_begin_again(self):
        # Behind each begin nothing is left of what was, be it by rule, above or take.
        for k, then in product((1, 2, 3, 4), repeat=2):
            before = filled([[(s + 1, 3) for s in range(k)]] * 2)
            for change in ([rule(0, [1] * k)], [above(0, 0), above(1, k - 1)], [take()]):
                self.assertEqual(seen(before + change, begin(then), *show()), ask(begin(then), *show()))
                self.assertEqual(seen(before + change, begin(0), *show())[1:], seen(before + change, *show()))


def rules_that_part(cells):
    """All rules by which somebody of each group is chosen, and somebody isn't."""
    rows = list(product((0, 1), repeat=len(cells[0])))
    parting = [[row for row in rows if by_heads(group, row)[1] not in (None, 0, 1)] for group in cells]
    return list(product(*parting))


def as_fractions(told):
    return [None if answer == [-33] else Fraction(answer[1], answer[2]) for answer in told]


class WhatHolds(Keeping):
    tables = (
        ((2, 1), (1, 2), (3, 0)), ((0, 0), (2, 4), (4, 2)), ((0, 5), (3, 0), (0, 1)), ((6, 3), (3, 6), (9, 0)),
        ((1, 1), (1, 1), (1, 1)), ((99, 0), (1, 98), (0, 7)), ((0, 4), (0, 2), (0, 6)), ((5, 5), (0, 0), (0, 0)),
    )

    def test_no_rule_has_more_kinds_alike_than_told(self):
        for cells in product(self.tables, repeat=2):
            rules = rules_that_part(cells)
            before = filled(cells) + [best()]
            told = ask(*before)[-1]
            if not rules:
                self.assertEqual(told, [-33])
            most = []
            for at in range(0, len(rules), 9):
                calls = [[rule(0, list(first)), rule(1, list(second)), which()] for first, second in rules[at:at + 9]]
                answers = seen(before, *[call for three in calls for call in three])[2::3]
                most += [len([q for q in answer[1:] if q != 0]) for answer in answers]
            if rules:
                self.assertEqual(told[0], max(most))
                self.assertEqual(told[1:], list(sum(rules[most.index(told[0])], ())))
                taken = seen(filled(cells), take(), which(), best(), state())
                self.assertEqual(len([q for q in taken[1][1:] if q != 0]), told[0])
                self.assertEqual([taken[0], taken[2], taken[3][1:]], [told[:1], told, told[1:]])

    def held(self, before):
        """Whether the first sentence had something to say of it."""
        told = seen(before, *look())
        groups = [as_fractions(told[g:14:2]) for g in range(2)]
        for group in groups:
            if None not in (group[0], group[2], group[3], group[4]):
                self.assertEqual(group[3] * (1 - group[0]) * group[4], group[2] * group[0] * (1 - group[4]), before)
        if None in (groups[0][0], groups[1][0]) or 0 in told[14][1:] or not {2, 3, 4} <= set(told[14][1:]):
            return False
        wrongly = [group[3] for group in groups]
        rightly = [group[2] for group in groups]
        self.assertTrue(wrongly == [0, 0] or rightly == [0, 0], before)
        return True

    def test_the_rates_hang_together(self):
        for cells in product(self.tables[:6], repeat=2):
            for rows in product(product((0, 1), repeat=3), repeat=2):
                self.held(filled(cells, rows))

    def test_the_rates_hang_together_after_take_and_above(self):
        for cells in product(self.tables, repeat=2):
            self.held(filled(cells) + [take()])
            self.held(filled(cells) + [above(0, 1), above(1, 2)])

    def test_nobody_chosen_wrongly_or_nobody_rightly(self):
        # The groups aren't alike in kind 0, but in kinds 2, 3 and 4.
        self.assertTrue(self.held(filled([((2, 4), (2, 0)), ((1, 5), (1, 0))], ((0, 1), (0, 1)))))
        self.assertTrue(self.held(filled([((2, 3), (0, 1)), ((1, 6), (0, 2))], ((0, 1), (0, 1)))))

    def test_what_is_refused_changes_nothing(self):
        big = LARGEST
        some = filled([((2, 6), (3, 1)), ((0, 0), (0, 0))], ((0, 1), (1, 1)))
        calls = {-2: [count(2, 0, 1, 1), count(0, 2, 1, 1), rule(2, [1, 1]), rate(0, 2), above(2, 0), above(0, 2),
                      cell(2, 0), cell(0, 2), people(2), ifpick(2, 0, 0), ifpick(0, 2, 0), count(big, big, big, big),
                      above(big, big), cell(big, big), people(big), ifpick(big, big, big)],
                 -22: [begin(0), begin(5), begin(big), count(0, 0, 100, 0), count(0, 0, 0, big), rule(0, [1]),
                       rule(0, [1, 2]), rate(7, 0), alike(7), gap(7), ifpick(0, 0, 7), ifpick(0, 0, big)],
                 -33: [rate(0, 1), alike(0), gap(0), best(), take(), ifpick(1, 0, 0), ifpick(0, 0, 5)]}
        for number, refused in calls.items():
            for call in refused:
                self.refused(some, call, number)


if __name__ == "__main__":
    unittest.main()
