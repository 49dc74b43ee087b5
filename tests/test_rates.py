"""rate, alike, gap and which: what they answer, what they refuse, and the corners."""

import unittest
from fractions import Fraction
from itertools import product
from math import gcd

from written import (LARGEST, Keeping, alike, begin, by_heads, count, filled, gap, last, rate, rule, seen, which,
                     written_fraction)

# Group 0: chosen 3 so and 1 not so, left 2 so and 6 not so. Group 1: chosen 2 and 2, left 1 and 3.
SOME = [begin(2), count(0, 0, 2, 6), count(0, 1, 3, 1), count(1, 0, 2, 2), count(1, 1, 1, 3),
        rule(0, [0, 1]), rule(1, [1, 0])]

# All in group 0, nobody in group 1.
ALONE = [begin(2), count(0, 0, 2, 6), count(0, 1, 3, 1), rule(0, [0, 1]), rule(1, [0, 1])]


def rates(before, g):
    return seen(before, *[rate(q, g) for q in range(7)])


class Rate(unittest.TestCase):
    def test_each_kind(self):
        self.assertEqual(rates(SOME, 0), [[0, 5, 12], [0, 1, 3], [0, 3, 5], [0, 1, 7], [0, 3, 4], [0, 3, 4],
                                          [0, 3, 4]])
        self.assertEqual(rates(SOME, 1), [[0, 3, 8], [0, 1, 2], [0, 2, 3], [0, 2, 5], [0, 1, 2], [0, 3, 4],
                                          [0, 5, 8]])

    def test_all_kinds_differ(self):
        # Here no two kinds have the same rate, so none can be taken for another.
        before = [begin(2), count(0, 0, 11, 17), count(0, 1, 29, 7), rule(0, [0, 1])]
        self.assertEqual(rates(before, 0), [[0, 5, 8], [0, 9, 16], [0, 29, 40], [0, 7, 24], [0, 29, 36],
                                            [0, 17, 28], [0, 23, 32]])

    def test_nothing_in_common(self):
        before = [begin(1), count(0, 0, 66, 99), count(1, 0, 98, 98)]
        self.assertEqual(seen(before, rate(0, 0), rate(0, 1)), [[0, 2, 5], [0, 1, 2]])

    def test_0_is_0_1_and_all_is_1_1(self):
        before = [begin(1), count(0, 0, 0, 99), count(1, 0, 99, 0)]
        self.assertEqual(seen(before, rate(0, 0), rate(0, 1)), [[0, 0, 1], [0, 1, 1]])

    def test_largest_tables(self):
        before = [begin(4)] + [count(0, s, 99, 99) for s in range(3)] + [count(0, 3, 98, 99)]
        self.assertEqual(last(*before, rate(0, 0)), [0, 395, 791])

    def test_no_such_group(self):
        for g in (2, 3, 256, LARGEST):
            self.assertEqual(last(*SOME, rate(0, g)), [-2])

    def test_no_such_kind(self):
        for q in (7, 8, 256, LARGEST):
            for g in range(2):
                self.assertEqual(last(*SOME, rate(q, g)), [-22])
        self.assertEqual(last(*SOME, rate(6, 0)), [0, 3, 4])

    def test_not_there(self):
        for q in range(7):
            self.assertEqual(last(*ALONE, rate(q, 1)), [-33])

    def test_the_first_refusal_is_answered(self):
        for q, g in ((7, 2), (LARGEST, LARGEST), (0, 2)):
            self.assertEqual(last(*SOME, rate(q, g)), [-2])
            self.assertEqual(last(begin(1), rate(q, g)), [-2])
        self.assertEqual(last(begin(1), rate(7, 0)), [-22])
        self.assertEqual(last(begin(1), rate(7, 1)), [-22])


class Alike(unittest.TestCase):
    def test_same_or_not(self):
        self.assertEqual(seen(SOME, *[alike(q) for q in range(7)]), [[0], [0], [0], [0], [0], [1], [0]])

    def test_same_by_other_numbers(self):
        before = [begin(1), count(0, 0, 2, 4), count(1, 0, 33, 66)]
        self.assertEqual(last(*before, alike(0)), [1])
        before = [begin(1), count(0, 0, 2, 4), count(1, 0, 33, 67)]
        self.assertEqual(last(*before, alike(0)), [0])

    def test_no_such_kind(self):
        for q in (7, 8, 256, LARGEST):
            self.assertEqual(last(*SOME, alike(q)), [-22])
        self.assertEqual(last(*SOME, alike(6)), [0])

    def test_not_there(self):
        for q in range(7):
            self.assertEqual(last(begin(1), alike(q)), [-33])

    def test_the_first_refusal_is_answered(self):
        self.assertEqual(last(begin(1), alike(7)), [-22])
        self.assertEqual(last(*ALONE, alike(LARGEST)), [-22])


class Gap(unittest.TestCase):
    def test_group_0_less_group_1(self):
        told = seen(SOME, *[gap(q) for q in range(7)])
        self.assertEqual(told, [[0, 1, 24], [0, -1, 6], [0, -1, 15], [0, -9, 35], [0, 1, 4], [0, 0, 1],
                                [0, 1, 8]])

    def test_nothing_in_common(self):
        # 3/4 less 1/4 is 8/16 before it's shortened; the other way about the upper number is below 0.
        there = [begin(1), count(0, 0, 3, 1), count(1, 0, 1, 3)]
        back = [begin(1), count(0, 0, 1, 3), count(1, 0, 3, 1)]
        self.assertEqual(last(*there, gap(0)), [0, 1, 2])
        self.assertEqual(last(*back, gap(0)), [0, -1, 2])

    def test_ends(self):
        none_all = [begin(1), count(0, 0, 0, 5), count(1, 0, 7, 0)]
        all_none = [begin(1), count(0, 0, 5, 0), count(1, 0, 0, 7)]
        same = [begin(1), count(0, 0, 2, 4), count(1, 0, 33, 66)]
        self.assertEqual(last(*none_all, gap(0)), [0, -1, 1])
        self.assertEqual(last(*all_none, gap(0)), [0, 1, 1])
        self.assertEqual(last(*same, gap(0)), [0, 0, 1])

    def test_no_such_kind(self):
        for q in (7, 8, 256, LARGEST):
            self.assertEqual(last(*SOME, gap(q)), [-22])
        self.assertEqual(last(*SOME, gap(6)), [0, 1, 8])

    def test_not_there(self):
        for q in range(7):
            self.assertEqual(last(begin(1), gap(q)), [-33])

    def test_the_first_refusal_is_answered(self):
        self.assertEqual(last(begin(1), gap(7)), [-22])
        self.assertEqual(last(*ALONE, gap(LARGEST)), [-22])


class Which(unittest.TestCase):
    def test_one(self):
        self.assertEqual(last(*SOME, which()), [1, 5])

    def test_none(self):
        before = [begin(1), count(0, 0, 1, 1), count(1, 0, 1, 2), rule(0, [1])]
        self.assertEqual(last(*before, which()), [0])
        self.assertEqual(last(begin(4), which()), [0])

    def test_all_rising(self):
        people = [count(g, s, 1 + s, 3) for g in range(2) for s in range(2)]
        self.assertEqual(last(begin(2), *people, rule(0, [0, 1]), rule(1, [0, 1]), which()),
                         [7, 0, 1, 2, 3, 4, 5, 6])


class Asking(Keeping):
    def test_changes_nothing(self):
        asked = [rate(0, 0), rate(4, 1), rate(7, 0), rate(0, 2), alike(5), alike(7), gap(3), gap(7), which()]
        for before in (SOME, ALONE, [begin(3)]):
            self.kept(before, asked)

    def test_refused_changes_nothing(self):
        for q in (7, LARGEST):
            for call in (rate(q, 0), alike(q), gap(q)):
                self.refused(SOME, call, -22)
        for g in (2, LARGEST):
            self.refused(SOME, rate(0, g), -2)
        for call in (rate(1, 1), alike(1), gap(1)):
            self.refused(ALONE, call, -33)


class Corners(unittest.TestCase):
    def test_a_group_without_people(self):
        self.assertEqual(rates(ALONE, 1), [[-33]] * 7)
        for q in range(7):
            self.assertNotEqual(last(*ALONE, rate(q, 0)), [-33])
            self.assertEqual(seen(ALONE, alike(q), gap(q)), [[-33], [-33]])
        self.assertEqual(last(*ALONE, which()), [0])

    def test_nobody_chosen(self):
        before = SOME + [rule(0, [0, 0]), rule(1, [0, 0])]
        self.assertEqual(rates(before, 0), [[0, 5, 12], [0, 0, 1], [0, 0, 1], [0, 0, 1], [-33], [0, 7, 12],
                                            [0, 7, 12]])
        self.assertEqual(last(*before, which()), [3, 1, 2, 3])

    def test_all_chosen(self):
        before = SOME + [rule(0, [1, 1]), rule(1, [1, 1])]
        self.assertEqual(rates(before, 0), [[0, 5, 12], [0, 1, 1], [0, 1, 1], [0, 1, 1], [0, 5, 12], [-33],
                                            [0, 5, 12]])
        self.assertEqual(last(*before, which()), [3, 1, 2, 3])

    def test_only_scores_without_people_chosen(self):
        before = [begin(2), count(0, 0, 3, 2), rule(0, [0, 1])]
        self.assertEqual(rates(before, 0), [[0, 3, 5], [0, 0, 1], [0, 0, 1], [0, 0, 1], [-33], [0, 2, 5],
                                            [0, 2, 5]])

    def test_nobody_turned_out_so(self):
        before = [begin(2), count(0, 0, 0, 1), count(0, 1, 0, 3), rule(0, [0, 1])]
        self.assertEqual(rates(before, 0), [[0, 0, 1], [0, 3, 4], [-33], [0, 3, 4], [0, 0, 1], [0, 1, 1],
                                            [0, 1, 4]])

    def test_everybody_turned_out_so(self):
        before = [begin(2), count(0, 0, 1, 0), count(0, 1, 3, 0), rule(0, [0, 1])]
        self.assertEqual(rates(before, 0), [[0, 1, 1], [0, 3, 4], [0, 3, 4], [-33], [0, 1, 1], [0, 0, 1],
                                            [0, 3, 4]])

    def test_never_wrong(self):
        before = [begin(2), count(0, 0, 0, 5), count(0, 1, 3, 0), count(1, 0, 2, 0), count(1, 1, 0, 9),
                  rule(0, [0, 1]), rule(1, [1, 0])]
        self.assertEqual(rates(before, 0), [[0, 3, 8], [0, 3, 8], [0, 1, 1], [0, 0, 1], [0, 1, 1], [0, 1, 1],
                                            [0, 1, 1]])
        self.assertEqual(seen(before, alike(0), which()), [[0], [5, 2, 3, 4, 5, 6]])

    def test_groups_alike(self):
        before = [begin(2), count(0, 0, 1, 2), count(0, 1, 4, 3), count(1, 0, 3, 6), count(1, 1, 12, 9),
                  rule(0, [0, 1]), rule(1, [0, 1])]
        self.assertEqual(last(*before, which()), [7, 0, 1, 2, 3, 4, 5, 6])
        self.assertEqual(seen(before, *[gap(q) for q in range(7)]), [[0, 0, 1]] * 7)

    def test_there_in_one_group_alone(self):
        # Somebody is chosen in one group, nobody in the other: kind 4 is there in the first one alone.
        people = [begin(1), count(0, 0, 1, 1), count(1, 0, 1, 1)]
        for g in range(2):
            before = people + [rule(g, [1])]
            self.assertEqual(seen(before, rate(4, g), rate(4, 1 - g)), [[0, 1, 2], [-33]])
            self.assertEqual(seen(before, rate(5, g), rate(5, 1 - g)), [[-33], [0, 1, 2]])
            for q in (4, 5):
                self.assertEqual(seen(before, alike(q), gap(q)), [[-33], [-33]])
            self.assertEqual(last(*before, which()), [2, 0, 6])

    def test_one_score(self):
        before = [begin(1), count(0, 0, 2, 1), count(1, 0, 4, 2), rule(0, [1]), rule(1, [1])]
        self.assertEqual(rates(before, 1), [[0, 2, 3], [0, 1, 1], [0, 1, 1], [0, 1, 1], [0, 2, 3], [-33],
                                            [0, 2, 3]])
        self.assertEqual(last(*before, which()), [6, 0, 1, 2, 3, 4, 6])


def expected(first, second):
    """What rate, alike, gap and which are to answer for two groups with these rates."""
    both = [None if a is None or b is None else a - b for a, b in zip(first, second)]
    same = [q for q in range(7) if both[q] == 0]
    told = [written_fraction(group[q]) for q in range(7) for group in (first, second)]
    told += [[-33] if d is None else [1 if d == 0 else 0] for d in both]
    told += [written_fraction(d) for d in both]
    return told + [[len(same)] + same]


class CountedByHeads(unittest.TestCase):
    asked = ([rate(q, g) for q in range(7) for g in range(2)] + [alike(q) for q in range(7)]
             + [gap(q) for q in range(7)] + [which()])

    def tried(self, tables, rules):
        """Tries each rule on each table, a table being for each group its pairs of so and not so."""
        for table in tables:
            for rows in rules:
                told = seen(filled(table, rows), *self.asked)
                first, second = [by_heads(table[g], rows[g]) for g in range(2)]
                self.assertEqual(told, expected(first, second), (table, rows))
                self.held(told)

    def held(self, told):
        """What holds of the rates by the document's third promise, from the answers alone."""
        for g in range(2):
            group = [told[2 * q + g] for q in range(7)]
            for answer in group:
                if answer != [-33]:
                    self.assertEqual(gcd(answer[1], answer[2]), 1)
                    self.assertGreaterEqual(answer[2], 1)
            if [-33] not in (group[0], group[2], group[3], group[4]):
                k0, k2, k3, k4 = [Fraction(group[q][1], group[q][2]) for q in (0, 2, 3, 4)]
                self.assertEqual(k3 * (1 - k0) * k4, k2 * k0 * (1 - k4))
        alike_kinds = told[14:21]
        if alike_kinds[0] == [0] and alike_kinds[2] == alike_kinds[3] == alike_kinds[4] == [1]:
            nobody_wrongly = told[6] == told[7] == [0, 0, 1]
            nobody_rightly = told[4] == told[5] == [0, 0, 1]
            self.assertTrue(nobody_wrongly or nobody_rightly)

    def test_one_score(self):
        cells = list(product(range(4), repeat=2))
        tables = [((a,), (b,)) for a in cells for b in cells]
        self.tried(tables, list(product([(0,), (1,)], repeat=2)))

    def test_two_scores(self):
        groups = list(product([(0, 0), (0, 2), (1, 0), (2, 1)], repeat=2))
        tables = list(product(groups, repeat=2))
        self.tried(tables, list(product(product([0, 1], repeat=2), repeat=2)))

    def test_four_scores(self):
        low = ((0, 7), (3, 3), (5, 2), (8, 0))
        high = ((99, 98), (0, 0), (1, 99), (64, 32))
        rows = list(product([0, 1], repeat=4))
        self.tried([(low, high), (high, low), (low, low)], list(product(rows, repeat=2)))

    def test_three_scores(self):
        low = ((0, 7), (3, 3), (6, 2))
        high = ((14, 0), (6, 6), (4, 12))
        rows = list(product([0, 1], repeat=3))
        self.tried([(low, high), (high, low)], list(product(rows, repeat=2)))


if __name__ == "__main__":
    unittest.main()
