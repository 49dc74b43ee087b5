"""begin, count and rule: what they answer, what they refuse, and what stays after a refusal."""

import unittest

from written import LARGEST, alike, ask, begin, count, gap, last, look, rate, rule, which

SOME = [begin(2), count(0, 0, 1, 2), count(0, 1, 3, 4), count(1, 0, 5, 6), count(1, 1, 7, 9),
        rule(0, [0, 1]), rule(1, [1, 0])]


class Refusals(unittest.TestCase):
    def refused(self, call, number, before=SOME):
        """The call is answered by the number alone, and all is as if it hadn't been there."""
        without = ask(*before, *look())
        told = ask(*before, call, *look())
        self.assertEqual(told[len(before)], [number])
        self.assertEqual(told[:len(before)] + told[len(before) + 1:], without)


class Begin(Refusals):
    def test_scores_from_one_to_four(self):
        for k in (1, 2, 3, 4):
            self.assertEqual(ask(begin(k)), [[0]])

    def test_other_scores_are_refused(self):
        for k in (0, 5, 6, 255, 256, LARGEST):
            self.assertEqual(ask(begin(k)), [[-22]])

    def test_k_is_how_many_scores(self):
        for k in (1, 2, 3, 4):
            told = ask(begin(k), count(0, k - 1, 1, 1), count(0, k, 1, 1), rule(0, [1] * k),
                       rule(0, [1] * (k - 1)), rule(0, [1] * (k + 1)))
            self.assertEqual(told, [[0], [2], [-2], [2], [-22], [-22]])

    def test_nobody_is_there(self):
        for k in (1, 2, 3, 4):
            told = ask(begin(k), rule(0, [1] * k), rule(1, [1] * k), *look())
            self.assertEqual(told, [[0], [0], [0]] + [[-33]] * 14 + [[0]])

    def test_nobody_is_chosen(self):
        for k in (1, 2, 3, 4):
            people = [count(g, s, 2, 1) for g in range(2) for s in range(k)]
            for g in range(2):
                self.assertEqual(last(begin(k), *people, rate(1, g)), [0, 0, 1])

    def test_again_is_as_if_new(self):
        for k in (1, 2, 3, 4):
            afresh = ask(begin(k), *look())
            self.assertEqual(ask(*SOME, begin(k), *look())[len(SOME):], afresh)
            people = [count(g, s, 2, 1) for g in range(2) for s in range(k)]
            afresh = ask(begin(k), *people, *look())
            self.assertEqual(ask(*SOME, begin(k), *people, *look())[len(SOME):], afresh)

    def test_again_with_more_and_fewer_scores(self):
        told = ask(begin(1), count(0, 1, 1, 1), begin(3), count(0, 2, 1, 1), begin(2), count(0, 2, 1, 1))
        self.assertEqual(told, [[0], [-2], [0], [2], [0], [-2]])

    def test_refused_again_changes_nothing(self):
        for k in (0, 5, LARGEST):
            self.refused(begin(k), -22)

    def test_refused_again_keeps_the_scores(self):
        for k in (0, 5):
            told = ask(begin(2), begin(k), count(0, 1, 1, 1), count(0, 2, 1, 1), rule(0, [1, 1]))
            self.assertEqual(told, [[0], [-22], [2], [-2], [2]])


class BeforeBegin(unittest.TestCase):
    def test_every_other_call(self):
        calls = [count(0, 0, 1, 1), rule(0, [1]), rate(0, 0), alike(0), gap(0), which(),
                 [7], [8], [9, 0, 0], [10, 0, 0], [11, 0], [12, 0, 0, 0], [13]]
        self.assertEqual(ask(*calls), [[-11]] * len(calls))
        for call in calls:
            self.assertEqual(ask(call), [[-11]])
            # A begin behind it shows that the call was read to its end, and no further.
            self.assertEqual(ask(call, begin(1), which()), [[-11], [0], [0]])

    def test_ahead_of_what_else_is_wrong(self):
        big = LARGEST
        calls = [count(big, big, big, big), rule(big, [big]), rule(2, []), rule(2, [2] * 255),
                 rate(big, big), alike(big), gap(big), [9, big, big], [10, big, big], [11, big],
                 [12, big, big, big]]
        self.assertEqual(ask(*calls), [[-11]] * len(calls))

    def test_after_a_begin_that_was_refused(self):
        for k in (0, 5, LARGEST):
            told = ask(begin(k), count(0, 0, 1, 1), rule(0, [1]), rate(0, 0), alike(0), gap(0), which())
            self.assertEqual(told, [[-22]] + [[-11]] * 6)

    def test_nothing_of_it_is_kept(self):
        told = ask(count(0, 0, 1, 1), rule(0, [1]), begin(1), rate(0, 0), count(0, 0, 1, 1), rate(1, 0))
        self.assertEqual(told, [[-11], [-11], [0], [-33], [2], [0, 0, 1]])


class Count(Refusals):
    def test_how_many_that_are(self):
        for y, n in ((0, 0), (0, 1), (1, 0), (3, 4), (99, 0), (0, 99), (99, 99)):
            self.assertEqual(last(begin(2), count(1, 1, y, n)), [y + n])

    def test_each_group_and_score_has_its_own(self):
        cells = [(g, s) for g in range(2) for s in range(4)]
        people = [count(g, s, 1 + s + 10 * g, 2 * s + 5) for g, s in cells]
        for g, s in cells:
            row = [1 if score == s else 0 for score in range(4)]
            told = ask(begin(4), *people, rule(g, row), rate(4, g))
            y, n = 1 + s + 10 * g, 2 * s + 5
            self.assertEqual(told[-2], [y + n])
            self.assertEqual(told[-1][1] * (y + n), told[-1][2] * y)

    def test_again_takes_the_place_of_what_was(self):
        told = ask(begin(1), rule(0, [1]), count(0, 0, 9, 9), count(0, 0, 1, 2), rate(0, 0),
                   rule(0, [1]), count(0, 0, 0, 0), rate(0, 0))
        self.assertEqual(told, [[0], [0], [18], [3], [0, 1, 3], [3], [0], [-33]])

    def test_leaves_the_rule(self):
        told = ask(begin(2), rule(0, [0, 1]), count(0, 0, 1, 1), count(0, 1, 3, 3), rate(1, 0))
        self.assertEqual(told[-1], [0, 3, 4])

    def test_no_such_group(self):
        for g in (2, 3, 256, LARGEST):
            self.refused(count(g, 0, 1, 1), -2)

    def test_no_such_score(self):
        for s in (2, 3, 256, LARGEST):
            for g in range(2):
                self.refused(count(g, s, 1, 1), -2)

    def test_edges_of_the_scores(self):
        for k in (1, 2, 3, 4):
            told = ask(begin(k), count(1, k - 1, 4, 3), count(1, k, 4, 3))
            self.assertEqual(told, [[0], [7], [-2]])

    def test_too_many_people(self):
        for y, n in ((100, 0), (0, 100), (100, 99), (99, 100), (100, 100), (LARGEST, 0), (0, LARGEST),
                     (LARGEST, LARGEST)):
            self.refused(count(0, 1, y, n), -22)

    def test_the_first_refusal_is_answered(self):
        for g, s in ((2, 0), (0, 2), (2, 2), (LARGEST, LARGEST)):
            self.refused(count(g, s, 100, 100), -2)


class Rule(Refusals):
    def test_how_many_are_chosen(self):
        for row, group, told in (([0, 0], 0, 0), ([1, 0], 0, 3), ([0, 1], 0, 7), ([1, 1], 0, 10),
                                 ([0, 0], 1, 0), ([1, 0], 1, 11), ([0, 1], 1, 16), ([1, 1], 1, 27)):
            self.assertEqual(last(*SOME, rule(group, row)), [told])

    def test_each_group_has_its_row(self):
        told = ask(*SOME, rate(1, 0), rate(1, 1), rule(0, [1, 1]), rate(1, 0), rate(1, 1))
        self.assertEqual(told[len(SOME):], [[0, 7, 10], [0, 11, 27], [10], [0, 1, 1], [0, 11, 27]])

    def test_again_takes_the_place_of_what_was(self):
        told = ask(*SOME, rule(0, [1, 0]), rate(1, 0), rule(0, [0, 0]), rate(1, 0))
        self.assertEqual(told[len(SOME):], [[3], [0, 3, 10], [0], [0, 0, 1]])

    def test_no_such_group(self):
        for g in (2, 3, 256, LARGEST):
            self.refused(rule(g, [1, 1]), -2)

    def test_too_few_too_many_or_no_numbers(self):
        for row in ([], [0], [1], [1, 1, 1], [0, 0, 0], [1, 1, 1, 1], [1] * 255, [0] * 255):
            for g in range(2):
                self.refused(rule(g, row), -22)

    def test_neither_0_nor_1(self):
        for row in ([2, 0], [0, 2], [1, 2], [2, 2], [0, LARGEST], [LARGEST, 1], [256, 0]):
            self.refused(rule(0, row), -22)
            self.refused(rule(1, row), -22)

    def test_one_score(self):
        told = ask(begin(1), count(0, 0, 2, 3), rule(0, [1]), rule(0, [0]), rule(0, []), rule(0, [1, 0]),
                   rule(0, [2]), rate(1, 0))
        self.assertEqual(told, [[0], [5], [5], [0], [-22], [-22], [-22], [0, 0, 1]])

    def test_the_first_refusal_is_answered(self):
        for row in ([], [2, 2], [1] * 255, [LARGEST]):
            self.refused(rule(2, row), -2)
            self.refused(rule(LARGEST, row), -2)

    def test_a_row_like_other_calls_is_read_as_a_row(self):
        told = ask(begin(4), rule(0, [0, 1, 0, 1]), rule(0, [6, 6, 6, 6, 6]), rule(0, [2, 0, 1, 1]), which())
        self.assertEqual(told, [[0], [0], [-22], [-22], [0]])


if __name__ == "__main__":
    unittest.main()
