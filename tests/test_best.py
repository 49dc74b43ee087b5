"""ifpick, best and take: what they answer, what they refuse, what they change, and the corners."""

import unittest
from functools import lru_cache
from itertools import product

from written import (LARGEST, Keeping, begin, best, by_heads, filled, ifpick, last, look, people, rate, rule, seen,
                     show, state, take, which)

# Group 0: chosen 3 so and 1 not so, left 2 so and 6 not so. Group 1: chosen 2 and 2, left 1 and 3.
CELLS = (((2, 6), (3, 1)), ((2, 2), (1, 3)))
SOME = filled(CELLS, ((0, 1), (1, 0)))

# All in group 0, nobody in group 1.
ALONE = filled((((2, 6), (3, 1)), ((0, 0), (0, 0))), ((0, 1), (0, 1)))

# As many with each score in both groups: the rates differ by the row alone.
EVEN = filled([[(1, 1), (1, 1)]] * 2)


# In group 0 those with score 0 turned out so, in group 1 those with score 1.
CROSSED = (((3, 0), (0, 5)), ((0, 9), (2, 0)))


def flipped(row, s):
    return [1 - mark if at == s else mark for at, mark in enumerate(row)]


def all_rules(k):
    return list(product(product((0, 1), repeat=k), repeat=2))


class IfPick(Keeping):
    def test_each_kind_by_one_score_more(self):
        told = seen(SOME, *[ifpick(0, 0, q) for q in range(7)])
        self.assertEqual(told, [[0, 5, 12], [0, 1, 1], [0, 1, 1], [0, 1, 1], [0, 5, 12], [-33], [0, 5, 12]])

    def test_each_kind_by_one_score_less(self):
        told = seen(SOME, *[ifpick(0, 1, q) for q in range(7)])
        self.assertEqual(told, [[0, 5, 12], [0, 0, 1], [0, 0, 1], [0, 0, 1], [-33], [0, 7, 12], [0, 7, 12]])

    def test_in_the_other_group(self):
        before = filled([[(1, 1)] * 3, [(11, 17), (29, 7), (4, 12)]], [[1, 1, 1], [0, 0, 1]])
        told = seen(before, *[ifpick(1, 1, q) for q in range(7)])
        self.assertEqual(told, [[0, 11, 20], [0, 13, 20], [0, 3, 4], [0, 19, 36], [0, 33, 52], [0, 17, 28],
                                [0, 5, 8]])

    def tried(self, tables, rules):
        """Each flip answers the rates that are there once the rule has been changed so."""
        for cells in tables:
            k = len(cells[0])
            for rows in rules:
                before = filled(cells, rows)
                for g, s in product(range(2), range(k)):
                    would = seen(before, *[ifpick(g, s, q) for q in range(7)])
                    changed = before + [rule(g, flipped(rows[g], s))]
                    self.assertEqual(would, seen(changed, *[rate(q, g) for q in range(7)]), (cells, rows, g, s))

    def test_is_the_rate_once_the_rule_is_so(self):
        values = [(0, 0), (0, 2), (1, 0), (2, 1)]
        self.tried([((a,), (b,)) for a in values for b in values], all_rules(1))
        groups = list(product(values, repeat=2))
        self.tried([(a, b) for a, b in zip(groups, reversed(groups))], all_rules(2))
        self.tried([(((0, 7), (3, 3), (6, 2)), ((14, 0), (0, 0), (4, 12)))], all_rules(3))
        self.tried([(((0, 7), (3, 3), (5, 2), (8, 0)), ((99, 98), (0, 0), (1, 99), (64, 32)))], all_rules(4))

    def test_twice_in_a_row_is_the_same(self):
        # A flip that was kept would be taken back by the second one.
        told = seen(SOME, ifpick(1, 1, 1), ifpick(1, 1, 1), rate(1, 1))
        self.assertEqual(told, [[0, 1, 1], [0, 1, 1], [0, 1, 2]])

    def test_changes_nothing(self):
        for before in (SOME, ALONE, EVEN):
            for g, s in product(range(2), range(2)):
                self.kept(before, [ifpick(g, s, q) for q in range(7)])

    def test_no_such_group_or_score(self):
        for g, s in ((2, 0), (2, 1), (3, 0), (LARGEST, 0), (0, 2), (1, 2), (0, 3), (0, 256), (1, LARGEST),
                     (2, 2), (LARGEST, LARGEST)):
            self.refused(SOME, ifpick(g, s, 0), -2)
        for k in (1, 2, 3, 4):
            before = filled([[(1, 1)] * k] * 2)
            self.assertEqual(seen(before, ifpick(1, k - 1, 0), ifpick(1, k, 0)), [[0, 1, 2], [-2]])

    def test_no_such_kind(self):
        for q in (7, 8, 256, LARGEST):
            for g, s in product(range(2), range(2)):
                self.refused(SOME, ifpick(g, s, q), -22)
        self.assertEqual(last(*SOME, ifpick(0, 1, 6)), [0, 7, 12])

    def test_not_there(self):
        for q in range(7):
            self.refused(ALONE, ifpick(1, 0, q), -33)
            self.refused([begin(1)], ifpick(0, 0, q), -33)

    def test_the_rate_that_would_be_there_counts(self):
        # Now kind 4 isn't there, and would be; then it's there, and wouldn't be.
        before = EVEN
        self.assertEqual(seen(before, rate(4, 0), ifpick(0, 1, 4)), [[-33], [0, 1, 2]])
        before = EVEN + [rule(0, [0, 1])]
        self.assertEqual(seen(before, rate(4, 0), ifpick(0, 1, 4)), [[0, 1, 2], [-33]])
        self.assertEqual(seen(before, rate(5, 0), ifpick(0, 0, 5)), [[0, 1, 2], [-33]])

    def test_the_first_refusal_is_answered(self):
        for before in (SOME, ALONE, [begin(1)]):
            for g, s, q in ((2, 0, 7), (0, 2, 7), (1, 2, 7), (LARGEST, LARGEST, LARGEST), (2, 0, 0), (1, 2, 0)):
                self.refused(before, ifpick(g, s, q), -2)
        for q in (7, LARGEST):
            self.refused(ALONE, ifpick(1, 0, q), -22)
            self.refused([begin(1)], ifpick(0, 0, q), -22)


class Best(Keeping):
    def test_groups_alike(self):
        # Kind 0 is alike too, and isn't counted.
        self.assertEqual(last(*filled([((1, 2), (4, 3)), ((3, 6), (12, 9))]), best()), [6, 0, 1, 0, 1])

    def test_of_equals_the_first(self):
        # Each of many rules has all kinds alike here: the one with 0 comes first, in group 0's row before group 1's.
        for k in (2, 3, 4):
            first = [0] * (k - 1) + [1]
            self.assertEqual(last(*filled([[(1, 1)] * k] * 2), best()), [6] + first + first)

    def test_none_alike_is_the_first_rule_of_all(self):
        self.assertEqual(last(*filled([((1, 2), (4, 3)), ((5, 1), (2, 9))]), best()), [0, 0, 1, 0, 1])

    def test_a_later_one_that_is_better(self):
        # By 0 1 in both groups no kind is alike. By 0 1 and 1 0 the choice is always wrong in both, ahead of 1 0 and
        # 0 1, by which it never is: in both all kinds but 1 are alike.
        before = filled(CROSSED)
        self.assertEqual(seen(before, rule(0, [0, 1]), rule(1, [0, 1]), which()), [[5], [2], [0]])
        self.assertEqual(seen(before, rule(0, [1, 0]), rule(1, [0, 1]), which()), [[3], [2], [5, 2, 3, 4, 5, 6]])
        self.assertEqual(last(*before, best()), [5, 0, 1, 1, 0])

    def test_scores_without_people(self):
        # Nobody's chosen by a score that nobody has: 0 0 1 in group 0 chooses nobody, and 1 1 0 all.
        before = filled([((2, 1), (1, 2), (0, 0)), ((0, 0), (2, 1), (1, 2))])
        self.assertEqual(last(*before, best()), [6, 0, 1, 0, 0, 0, 1])

    def test_whatever_the_rule_is_now(self):
        for rows in all_rules(2):
            self.assertEqual(last(*filled(CELLS, rows), best()), last(*SOME, best()))

    def test_changes_nothing(self):
        for before in (SOME, EVEN, filled(CROSSED)):
            told = self.kept(before, [best(), best()])
            self.assertEqual(told[0], told[1])
            self.assertEqual(len(told[0]), 5)

    def test_there_is_none(self):
        one_score_each = [((0, 0), (3, 2)), ((1, 1), (1, 1))]
        for before in ([begin(1)], [begin(4)], ALONE, filled(one_score_each), filled(one_score_each[::-1])):
            self.refused(before, best(), -33)


class Take(Keeping):
    def test_how_many_and_then_the_rule(self):
        told = seen(filled(CROSSED), take(), state(), which())
        self.assertEqual(told, [[5], [2, 0, 1, 1, 0], [5, 2, 3, 4, 5, 6]])

    def test_none_alike(self):
        told = seen(filled([((1, 2), (4, 3)), ((5, 1), (2, 9))]), take(), state(), which())
        self.assertEqual(told, [[0], [2, 0, 1, 0, 1], [0]])

    def test_is_as_the_rule(self):
        for before in (SOME, EVEN, filled(CROSSED, ((1, 1), (1, 1)))):
            found = last(*before, best())
            rules = [rule(0, found[1:3]), rule(1, found[3:])]
            for shown in (look(), show()):
                self.assertEqual(seen(before, take(), *shown)[1:], seen(before, *rules, *shown)[2:])
                self.assertEqual(seen(before, take(), *shown)[0], found[:1])

    def test_leaves_the_people(self):
        self.assertEqual(seen(SOME, take(), *show())[2:], seen(SOME, *show())[1:])

    def test_what_is_taken_can_be_changed(self):
        # The rows are the object's own: one that's changed later doesn't reach into what's answered next.
        told = seen(EVEN, take(), rule(0, [1, 1]), state(), best(), take(), state())
        self.assertEqual(told, [[6], [4], [2, 1, 1, 0, 1], [6, 0, 1, 0, 1], [6], [2, 0, 1, 0, 1]])

    def test_there_is_none(self):
        one_score_each = [((0, 0), (3, 2)), ((1, 1), (1, 1))]
        rows = ((1, 1), (0, 1))
        for before in ([begin(1)], [begin(4)], ALONE, filled(one_score_each, rows),
                       filled(one_score_each[::-1], rows)):
            self.refused(before, take(), -33)


@lru_cache(maxsize=None)
def rates_by_heads(cells, row):
    return by_heads(cells, row)


def best_by_heads(cells):
    """What best is to answer: all rules tried one by one, the people of each counted one by one."""
    k = len(cells[0])
    tried = []
    for marks in product((0, 1), repeat=2 * k):
        first, second = rates_by_heads(cells[0], marks[:k]), rates_by_heads(cells[1], marks[k:])
        if any(group[1] in (None, 0, 1) for group in (first, second)):
            continue
        same = [q for q in range(1, 7) if None not in (first[q], second[q]) and first[q] == second[q]]
        tried.append((-len(same), marks))
    if not tried:
        return [-33]
    fewest_not, marks = min(tried)
    return [-fewest_not] + list(marks)


class TriedOneByOne(unittest.TestCase):
    def tried(self, tables):
        """How often which number of kinds was the best."""
        often = {}
        for cells in tables:
            told = seen(filled(cells), best(), state(), take(), state())
            wanted = best_by_heads(cells)
            k = len(cells[0])
            none_chosen = [k] + [0] * (2 * k)
            taken = none_chosen if wanted == [-33] else [k] + wanted[1:]
            self.assertEqual(told, [wanted, none_chosen, wanted[:1], taken], cells)
            often[wanted[0]] = often.get(wanted[0], 0) + 1
        return often

    def test_one_score(self):
        # All of a group are chosen or none: there's never such a rule.
        values = list(product(range(3), repeat=2)) + [(99, 99)]
        often = self.tried([((a,), (b,)) for a in values for b in values])
        self.assertEqual(list(often), [-33])

    def test_two_scores(self):
        groups = list(product([(0, 0), (0, 1), (1, 0), (2, 1), (1, 3)], repeat=2))
        often = self.tried(list(product(groups, repeat=2)))
        self.assertTrue({-33, 0, 1, 2, 5, 6} <= set(often), often)

    def test_three_scores(self):
        groups = list(product([(0, 0), (2, 0), (1, 3)], repeat=3))
        often = self.tried(list(product(groups, repeat=2)))
        self.assertTrue({-33, 1, 2, 6} <= set(often), often)

    def test_four_scores(self):
        groups = list(product([(0, 2), (3, 1)], repeat=4))
        self.tried(list(product(groups, repeat=2)))
        uneven = [((0, 7), (3, 3), (5, 2), (8, 0)), ((9, 8), (0, 0), (1, 9), (6, 3)),
                  ((1, 0), (0, 1), (2, 5), (7, 7)), ((0, 0), (4, 0), (0, 0), (0, 4)),
                  ((0, 0), (0, 0), (0, 0), (5, 5)), ((99, 1), (1, 99), (50, 50), (2, 3))]
        self.tried(list(product(uneven, repeat=2)))


class Corners(Keeping):
    def test_a_group_without_people(self):
        for cells in ([((2, 6), (3, 1)), ((0, 0), (0, 0))], [((0, 0), (0, 0)), ((2, 6), (3, 1))]):
            before = filled(cells, ((0, 1), (0, 1)))
            empty = [g for g in range(2) if cells[g] == ((0, 0), (0, 0))][0]
            self.refused(before, best(), -33)
            self.refused(before, take(), -33)
            for q, s in product(range(7), range(2)):
                self.refused(before, ifpick(empty, s, q), -33)
            self.assertEqual(last(*before, ifpick(1 - empty, 1, 1)), [0, 0, 1])
            self.assertEqual(last(*before, people(empty)), [0, 0])

    def test_nobody_or_all_chosen_is_no_such_rule(self):
        # By choosing nobody kinds 1, 2 and 3 would be alike, and by choosing all too.
        cells = [((1, 2), (4, 3)), ((5, 1), (2, 9))]
        for rows in (((0, 0), (0, 0)), ((1, 1), (1, 1))):
            before = filled(cells, rows)
            self.assertEqual(seen(before, which(), best()), [[3, 1, 2, 3], [0, 0, 1, 0, 1]])

    def test_from_nobody_chosen(self):
        before = filled(CELLS, ((0, 0), (0, 0)))
        self.assertEqual(seen(before, rate(4, 0), ifpick(0, 1, 4), ifpick(0, 1, 5)),
                         [[-33], [0, 3, 4], [0, 3, 4]])

    def test_from_all_chosen(self):
        before = filled(CELLS, ((1, 1), (1, 1)))
        self.assertEqual(seen(before, rate(5, 0), ifpick(0, 0, 5), ifpick(0, 0, 4)),
                         [[-33], [0, 3, 4], [0, 3, 4]])

    def test_nobody_turned_out_so(self):
        # Kind 2 isn't there in either group: it isn't alike.
        before = filled([((0, 1), (0, 3)), ((0, 2), (0, 6))])
        self.assertEqual(last(*before, best()), [5, 0, 1, 0, 1])
        self.assertEqual(seen(before, ifpick(0, 1, 2), ifpick(0, 1, 3)), [[-33], [0, 3, 4]])
        self.assertEqual(seen(before, people(0), people(1)), [[4, 0], [8, 0]])

    def test_everybody_turned_out_so(self):
        before = filled([((1, 0), (3, 0)), ((2, 0), (6, 0))])
        self.assertEqual(last(*before, best()), [5, 0, 1, 0, 1])
        self.assertEqual(seen(before, ifpick(0, 1, 3), ifpick(0, 1, 2)), [[-33], [0, 3, 4]])

    def test_there_in_one_group_alone(self):
        # Kind 2 is there in one group alone.
        nobody_so = ((0, 1), (0, 3))
        somebody_so = ((2, 2), (0, 12))
        for cells in ([nobody_so, somebody_so], [somebody_so, nobody_so]):
            before = filled(cells, ((0, 1), (0, 1)))
            self.assertEqual(seen(before, best(), which()), [[2, 0, 1, 0, 1], [2, 1, 4]])
            g = cells.index(nobody_so)
            self.assertEqual(seen(before, ifpick(g, 0, 2), ifpick(1 - g, 0, 2)), [[-33], [0, 1, 1]])

    def test_never_wrong(self):
        # Kind 0 isn't alike, so kind 1 can't be; all others are.
        before = filled([((0, 5), (3, 0)), ((0, 9), (2, 0))])
        self.assertEqual(seen(before, best(), ifpick(0, 1, 6), ifpick(1, 1, 6)),
                         [[5, 0, 1, 0, 1], [0, 1, 1], [0, 1, 1]])

    def test_one_score(self):
        before = filled([((2, 1),), ((4, 2),)])
        self.refused(before, best(), -33)
        self.refused(before, take(), -33)
        self.assertEqual(seen(before, *[ifpick(0, 0, q) for q in range(7)]),
                         [[0, 2, 3], [0, 1, 1], [0, 1, 1], [0, 1, 1], [0, 2, 3], [-33], [0, 2, 3]])


if __name__ == "__main__":
    unittest.main()
