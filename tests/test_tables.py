"""begin, count, rule, above, cell, people and state: what they answer, what they refuse, and what stays then."""

import unittest
from itertools import product

from written import (LARGEST, Keeping, above, alike, ask, begin, best, cell, count, filled, gap, ifpick, last, look,
                     people, rate, rule, seen, show, state, take, which)

SOME = [begin(2), count(0, 0, 1, 2), count(0, 1, 3, 4), count(1, 0, 5, 6), count(1, 1, 7, 9),
        rule(0, [0, 1]), rule(1, [1, 0])]


class Begin(Keeping):
    def test_scores_from_one_to_four(self):
        for k in (1, 2, 3, 4):
            self.assertEqual(ask(begin(k)), [[0]])

    def test_other_scores_are_refused(self):
        for k in (0, 5, 6, 255, 256, LARGEST):
            self.assertEqual(ask(begin(k)), [[-22]])

    def test_k_is_how_many_scores(self):
        for k in (1, 2, 3, 4):
            told = ask(begin(k), count(0, k - 1, 1, 1), count(0, k, 1, 1), rule(0, [1] * k),
                       rule(0, [1] * (k - 1)), rule(0, [1] * (k + 1)))
            self.assertEqual(told, [[0], [2], [-2], [2], [-22], [-22]])

    def test_nobody_is_there(self):
        for k in (1, 2, 3, 4):
            told = ask(begin(k), rule(0, [1] * k), rule(1, [1] * k), *look())
            self.assertEqual(told, [[0], [0], [0]] + [[-33]] * 14 + [[0]])

    def test_nobody_is_chosen(self):
        for k in (1, 2, 3, 4):
            before = filled([[(2, 1)] * k] * 2)
            for g in range(2):
                self.assertEqual(last(*before, rate(1, g)), [0, 0, 1])

    def test_all_that_is_kept(self):
        for k in (1, 2, 3, 4):
            cells = ([[0, 0]] * k + [[-2]] * (5 - k)) * 2
            self.assertEqual(seen([begin(k)], *show()), [[k] + [0] * 2 * k, [0, 0], [0, 0]] + cells)

    def test_again_is_as_if_new(self):
        for k in (1, 2, 3, 4):
            for afresh in ([begin(k)], filled([[(2, 1)] * k] * 2)):
                for shown in (look(), show()):
                    self.assertEqual(seen(SOME, *afresh, *shown), ask(*afresh, *shown))

    def test_again_with_more_and_fewer_scores(self):
        told = ask(begin(1), count(0, 1, 1, 1), begin(3), count(0, 2, 1, 1), begin(2), count(0, 2, 1, 1))
        self.assertEqual(told, [[0], [-2], [0], [2], [0], [-2]])

    def test_refused_again_changes_nothing(self):
        for k in (0, 5, LARGEST):
            self.refused(SOME, begin(k), -22)

    def test_refused_again_keeps_the_scores(self):
        for k in (0, 5):
            told = ask(begin(2), begin(k), count(0, 1, 1, 1), count(0, 2, 1, 1), rule(0, [1, 1]))
            self.assertEqual(told, [[0], [-22], [2], [-2], [2]])


class BeforeBegin(unittest.TestCase):
    calls = [count(0, 0, 1, 1), rule(0, [1]), rate(0, 0), alike(0), gap(0), which(), best(), take(), above(0, 0),
             cell(0, 0), people(0), ifpick(0, 0, 0), state()]

    def test_every_other_call(self):
        self.assertEqual(ask(*self.calls), [[-11]] * 13)
        for call in self.calls:
            self.assertEqual(ask(call), [[-11]])
            # A begin behind it shows that the call was read to its end, and no further.
            self.assertEqual(ask(call, begin(1), which()), [[-11], [0], [0]])

    def test_ahead_of_what_else_is_wrong(self):
        big = LARGEST
        calls = [count(big, big, big, big), rule(big, [big]), rule(2, []), rule(2, [2] * 255),
                 rate(big, big), alike(big), gap(big), above(big, big), cell(big, big), people(big),
                 ifpick(big, big, big)]
        self.assertEqual(ask(*calls), [[-11]] * len(calls))

    def test_after_a_begin_that_was_refused(self):
        for k in (0, 5, LARGEST):
            self.assertEqual(ask(begin(k), *self.calls), [[-22]] + [[-11]] * 13)

    def test_nothing_of_it_is_kept(self):
        told = ask(count(0, 0, 1, 1), rule(0, [1]), begin(1), rate(0, 0), count(0, 0, 1, 1), rate(1, 0))
        self.assertEqual(told, [[-11], [-11], [0], [-33], [2], [0, 0, 1]])
        self.assertEqual(seen(self.calls + [begin(1)], *show()), seen([begin(1)], *show()))


class Count(Keeping):
    def test_how_many_that_are(self):
        for y, n in ((0, 0), (0, 1), (1, 0), (3, 4), (99, 0), (0, 99), (99, 99)):
            self.assertEqual(last(begin(2), count(1, 1, y, n)), [y + n])

    def test_each_group_and_score_has_its_own(self):
        before = filled([[(1 + s + 10 * g, 2 * s + 5) for s in range(4)] for g in range(2)])
        for g, s in product(range(2), range(4)):
            row = [1 if score == s else 0 for score in range(4)]
            told = ask(*before, rule(g, row), rate(4, g))
            y, n = 1 + s + 10 * g, 2 * s + 5
            self.assertEqual(told[-2], [y + n])
            self.assertEqual(told[-1][1] * (y + n), told[-1][2] * y)

    def test_again_takes_the_place_of_what_was(self):
        told = ask(begin(1), rule(0, [1]), count(0, 0, 9, 9), count(0, 0, 1, 2), rate(0, 0),
                   rule(0, [1]), count(0, 0, 0, 0), rate(0, 0))
        self.assertEqual(told, [[0], [0], [18], [3], [0, 1, 3], [3], [0], [-33]])

    def test_leaves_the_rule(self):
        told = ask(begin(2), rule(0, [0, 1]), count(0, 0, 1, 1), count(0, 1, 3, 3), rate(1, 0))
        self.assertEqual(told[-1], [0, 3, 4])

    def test_no_such_group(self):
        for g in (2, 3, 256, LARGEST):
            self.refused(SOME, count(g, 0, 1, 1), -2)

    def test_no_such_score(self):
        for s in (2, 3, 256, LARGEST):
            for g in range(2):
                self.refused(SOME, count(g, s, 1, 1), -2)

    def test_edges_of_the_scores(self):
        for k in (1, 2, 3, 4):
            told = ask(begin(k), count(1, k - 1, 4, 3), count(1, k, 4, 3))
            self.assertEqual(told, [[0], [7], [-2]])

    def test_too_many_people(self):
        for y, n in ((100, 0), (0, 100), (100, 99), (99, 100), (100, 100), (LARGEST, 0), (0, LARGEST),
                     (LARGEST, LARGEST)):
            self.refused(SOME, count(0, 1, y, n), -22)

    def test_the_first_refusal_is_answered(self):
        for g, s in ((2, 0), (0, 2), (2, 2), (LARGEST, LARGEST)):
            self.refused(SOME, count(g, s, 100, 100), -2)


class Rule(Keeping):
    def test_how_many_are_chosen(self):
        for row, group, told in (([0, 0], 0, 0), ([1, 0], 0, 3), ([0, 1], 0, 7), ([1, 1], 0, 10),
                                 ([0, 0], 1, 0), ([1, 0], 1, 11), ([0, 1], 1, 16), ([1, 1], 1, 27)):
            self.assertEqual(last(*SOME, rule(group, row)), [told])

    def test_each_group_has_its_row(self):
        told = ask(*SOME, rate(1, 0), rate(1, 1), rule(0, [1, 1]), rate(1, 0), rate(1, 1))
        self.assertEqual(told[len(SOME):], [[0, 7, 10], [0, 11, 27], [10], [0, 1, 1], [0, 11, 27]])

    def test_again_takes_the_place_of_what_was(self):
        told = ask(*SOME, rule(0, [1, 0]), rate(1, 0), rule(0, [0, 0]), rate(1, 0))
        self.assertEqual(told[len(SOME):], [[3], [0, 3, 10], [0], [0, 0, 1]])

    def test_no_such_group(self):
        for g in (2, 3, 256, LARGEST):
            self.refused(SOME, rule(g, [1, 1]), -2)

    def test_too_few_too_many_or_no_numbers(self):
        for row in ([], [0], [1], [1, 1, 1], [0, 0, 0], [1, 1, 1, 1], [1] * 255, [0] * 255):
            for g in range(2):
                self.refused(SOME, rule(g, row), -22)

    def test_neither_0_nor_1(self):
        for row in ([2, 0], [0, 2], [1, 2], [2, 2], [0, LARGEST], [LARGEST, 1], [256, 0]):
            self.refused(SOME, rule(0, row), -22)
            self.refused(SOME, rule(1, row), -22)

    def test_one_score(self):
        told = ask(begin(1), count(0, 0, 2, 3), rule(0, [1]), rule(0, [0]), rule(0, []), rule(0, [1, 0]),
                   rule(0, [2]), rate(1, 0))
        self.assertEqual(told, [[0], [5], [5], [0], [-22], [-22], [-22], [0, 0, 1]])

    def test_the_first_refusal_is_answered(self):
        for row in ([], [2, 2], [1] * 255, [LARGEST]):
            self.refused(SOME, rule(2, row), -2)
            self.refused(SOME, rule(LARGEST, row), -2)

    def test_a_row_like_other_calls_is_read_as_a_row(self):
        told = ask(begin(4), rule(0, [0, 1, 0, 1]), rule(0, [6, 6, 6, 6, 6]), rule(0, [2, 0, 1, 1]), which())
        self.assertEqual(told, [[0], [0], [-22], [-22], [0]])


class Above(Keeping):
    def test_the_scores_from_s_on(self):
        for k in (1, 2, 3, 4):
            before = filled([[(1, 1)] * k] * 2)
            for s in range(k):
                row = [0] * s + [1] * (k - s)
                self.assertEqual(seen(before, above(0, s), state()), [[2 * (k - s)], [k] + row + [0] * k])
                self.assertEqual(seen(before, above(1, s), state()), [[2 * (k - s)], [k] + [0] * k + row])

    def test_how_many_people(self):
        before = filled([[(1, 2), (10, 0), (0, 20), (99, 99)], [(5, 5), (0, 0), (7, 0), (0, 0)]])
        told = seen(before, *[above(g, s) for g in range(2) for s in range(4)])
        self.assertEqual(told, [[231], [228], [218], [198], [17], [7], [7], [0]])

    def test_no_others(self):
        # What was chosen below s is chosen no more; the other group's row stays.
        before = filled([[(1, 1)] * 3] * 2, [[1, 1, 0], [1, 0, 1]])
        self.assertEqual(seen(before, above(0, 2), state()), [[2], [3, 0, 0, 1, 1, 0, 1]])
        self.assertEqual(seen(before, above(1, 1), state()), [[4], [3, 1, 1, 0, 0, 1, 1]])
        self.assertEqual(seen(before, above(0, 0), state()), [[6], [3, 1, 1, 1, 1, 0, 1]])

    def test_is_as_the_rule(self):
        for g, s in product(range(2), range(2)):
            row = [1 if score >= s else 0 for score in range(2)]
            for shown in (look(), show()):
                self.assertEqual(seen(SOME, above(g, s), *shown), seen(SOME, rule(g, row), *shown))

    def test_leaves_the_people(self):
        self.assertEqual(seen(SOME, above(0, 0), *show())[2:], seen(SOME, *show())[1:])

    def test_no_such_group_or_score(self):
        for g, s in ((2, 0), (2, 1), (3, 0), (LARGEST, 0), (0, 2), (1, 2), (0, 3), (0, 256), (1, LARGEST),
                     (2, 2), (LARGEST, LARGEST)):
            self.refused(SOME, above(g, s), -2)
        for k in (1, 2, 3, 4):
            self.assertEqual(ask(begin(k), above(1, k - 1), above(1, k)), [[0], [0], [-2]])

    def test_a_group_without_people(self):
        self.assertEqual(ask(begin(2), above(0, 1), state()), [[0], [0], [2, 0, 1, 0, 0]])

    def test_one_score(self):
        self.assertEqual(ask(begin(1), count(1, 0, 2, 3), above(1, 0), state()), [[0], [5], [5], [1, 0, 1]])


class Cell(Keeping):
    def test_so_then_not_so(self):
        told = seen(SOME, *[cell(g, s) for g in range(2) for s in range(2)])
        self.assertEqual(told, [[1, 2], [3, 4], [5, 6], [7, 9]])

    def test_each_has_its_own(self):
        cells = [[(1 + s + 10 * g, 90 - s - 20 * g) for s in range(4)] for g in range(2)]
        for g, s in product(range(2), range(4)):
            self.assertEqual(last(*filled(cells), cell(g, s)), list(cells[g][s]))

    def test_ends(self):
        told = ask(begin(1), cell(0, 0), count(0, 0, 99, 0), cell(0, 0), count(0, 0, 0, 99), cell(0, 0))
        self.assertEqual(told, [[0], [0, 0], [99], [99, 0], [99], [0, 99]])

    def test_again_takes_the_place_of_what_was(self):
        self.assertEqual(seen(SOME, count(0, 0, 8, 3), cell(0, 0), cell(1, 0)), [[11], [8, 3], [5, 6]])

    def test_no_such_group_or_score(self):
        for g, s in ((2, 0), (2, 1), (3, 0), (LARGEST, 0), (0, 2), (1, 2), (0, 3), (0, 256), (1, LARGEST),
                     (2, 2), (LARGEST, LARGEST)):
            self.refused(SOME, cell(g, s), -2)
        for k in (1, 2, 3, 4):
            self.assertEqual(ask(begin(k), cell(1, k - 1), cell(1, k)), [[0], [0, 0], [-2]])

    def test_changes_nothing(self):
        self.assertEqual(self.kept(SOME, [cell(0, 1), cell(1, 0)]), [[3, 4], [5, 6]])


class People(Keeping):
    def test_how_many_then_how_many_so(self):
        self.assertEqual(seen(SOME, people(0), people(1)), [[10, 4], [27, 12]])

    def test_whatever_the_rule(self):
        for rows in product(product((0, 1), repeat=2), repeat=2):
            before = SOME + [rule(g, list(rows[g])) for g in range(2)]
            self.assertEqual(seen(before, people(0), people(1)), [[10, 4], [27, 12]])

    def test_ends(self):
        before = filled([[(99, 99)] * 4, [(0, 0)] * 4])
        self.assertEqual(seen(before, people(0), people(1)), [[792, 396], [0, 0]])
        before = filled([[(0, 5)] * 3, [(5, 0)] * 3])
        self.assertEqual(seen(before, people(0), people(1)), [[15, 0], [15, 15]])

    def test_no_such_group(self):
        for g in (2, 3, 256, LARGEST):
            self.refused(SOME, people(g), -2)

    def test_changes_nothing(self):
        self.assertEqual(self.kept(SOME, [people(1), people(0)]), [[27, 12], [10, 4]])


class State(Keeping):
    def test_scores_then_the_rows(self):
        self.assertEqual(last(*SOME, state()), [2, 0, 1, 1, 0])

    def test_every_rule(self):
        for k in (1, 2, 3, 4):
            for marks in product((0, 1), repeat=2 * k):
                told = ask(begin(k), rule(0, list(marks[:k])), rule(1, list(marks[k:])), state())
                self.assertEqual(told[-1], [k] + list(marks))

    def test_whatever_the_people(self):
        told = ask(begin(2), rule(1, [0, 1]), state(), count(1, 1, 9, 9), state(), count(1, 1, 0, 0), state())
        self.assertEqual([told[2], told[4], told[6]], [[2, 0, 0, 0, 1]] * 3)

    def test_changes_nothing(self):
        self.assertEqual(self.kept(SOME, [state(), state()]), [[2, 0, 1, 1, 0]] * 2)


if __name__ == "__main__":
    unittest.main()
