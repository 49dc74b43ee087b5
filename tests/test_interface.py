"""answers: how calls and answers are written, and what stands behind the list of calls."""

import contextlib
import io
import sys
import unittest

from twogroups.choice import answers
from written import (LARGEST, above, alike, begin, best, cell, count, gap, ifpick, line, people, rate, rule, state,
                     take, which)

# Every call, and every refusal.
EACH = [which(), begin(0), begin(2), count(0, 0, 2, 6), count(0, 1, 3, 1), count(1, 0, 2, 2),
        count(1, 1, 1, 3), count(2, 0, 1, 1), rule(0, [0, 1]), rule(1, [1, 0]), rule(1, [1, 2]),
        rate(0, 0), rate(4, 1), rate(7, 1), alike(5), alike(4), gap(3), gap(7), which(),
        rule(0, [0, 0]), rate(4, 0), best(), state(), above(0, 1), ifpick(0, 0, 1), ifpick(0, 1, 4),
        ifpick(0, 2, 9), cell(1, 1), cell(1, 2), people(0), above(2, 0), people(9), above(0, 0), take(),
        state(), begin(1), rate(0, 0), take()]
CALLS = line(EACH)
TOLD = [1, -11, 1, -22, 1, 0, 1, 8, 1, 4, 1, 4,
        1, 4, 1, -2, 1, 4, 1, 4, 1, -22,
        3, 0, 5, 12, 3, 0, 1, 2, 1, -22, 1, 1, 1, 0, 3, 0, -9, 35, 1, -22, 2, 1, 5,
        1, 0, 1, -33, 5, 1, 0, 1, 1, 0, 5, 2, 0, 0, 1, 0, 1, 4, 3, 0, 1, 1, 1, -33, 1, -2, 2, 1, 3, 1, -2, 2, 12, 5,
        1, -2, 1, -2, 1, 12, 1, 1, 5, 2, 0, 1, 1, 0, 1, 0, 1, -33, 1, -33]


def refuse(*args, **kwargs):
    raise AssertionError("what is handed in is changed")


class Unchanging(list):
    """A list that can't be changed, not for a while either."""

    append = extend = insert = pop = remove = clear = sort = reverse = refuse
    __setitem__ = __delitem__ = __iadd__ = __imul__ = refuse


class Answers(unittest.TestCase):
    def test_written_out(self):
        handed = [0, 2, 1, 0, 1, 3, 1, 2, 0, 2, 0, 1, 3, 4, 0, 6]
        self.assertEqual(answers(handed), [1, 0, 1, 4, 1, 4, 3, 0, 3, 4, 1, 0])

    def test_every_call_and_refusal(self):
        self.assertEqual(answers(CALLS), TOLD)

    def test_each_call_of_the_second_half(self):
        # Two scores, nobody in group 1: each call's number, its arguments, and how many numbers it answers.
        before = [0, 2, 1, 0, 0, 2, 6, 1, 0, 1, 3, 1]
        for call, told in (([7], [1, -33]), ([8], [1, -33]), ([9, 0, 1], [1, 4]), ([10, 0, 1], [2, 3, 1]),
                           ([11, 0], [2, 12, 5]), ([12, 0, 1, 4], [3, 0, 3, 4]), ([13], [5, 2, 0, 0, 0, 0])):
            self.assertEqual(answers(before + call), [1, 0, 1, 8, 1, 4] + told)
        before = before + [1, 1, 0, 2, 2, 1, 1, 1, 1, 3]
        for call, told in (([7], [5, 1, 0, 1, 1, 0]), ([8, 13], [1, 1, 5, 2, 0, 1, 1, 0])):
            self.assertEqual(answers(before + call), [1, 0, 1, 8, 1, 4, 1, 4, 1, 4] + told)

    def test_by_the_name_of_its_argument(self):
        self.assertEqual(answers(calls=[0, 1]), [1, 0])

    def test_no_calls(self):
        self.assertEqual(answers([]), [])

    def test_every_call_is_among_them(self):
        self.assertEqual({call[0] for call in EACH}, set(range(14)))

    def test_a_list_of_whole_numbers(self):
        told = answers(CALLS)
        self.assertIs(type(told), list)
        self.assertEqual({type(number) for number in told}, {int})

    def test_longest_list(self):
        handed = line([rule(LARGEST, [LARGEST] * 255)] * 40)
        self.assertEqual(len(handed), 10320)
        self.assertEqual(answers(handed), [1, -11] * 40)
        handed = line([begin(4)] + [rule(1, [1] * 255)] * 38 + [rule(1, [])])
        self.assertEqual(answers(handed), [1, 0] + [1, -22] * 39)


class BehindTheList(unittest.TestCase):
    def test_the_list_stays_as_it_was(self):
        handed = list(CALLS)
        answers(handed)
        self.assertEqual(handed, CALLS)

    def test_the_list_is_not_changed_for_a_while(self):
        handed = Unchanging(CALLS)
        self.assertEqual(answers(handed), TOLD)
        self.assertEqual(list(handed), CALLS)

    def test_the_answer_is_another_list_each_time(self):
        first = answers([])
        first.append(1)
        self.assertEqual(answers([]), [])
        first = answers(CALLS)
        first.clear()
        self.assertEqual(answers(CALLS), TOLD)

    def test_a_second_time_is_as_if_for_the_first_time(self):
        self.assertEqual(answers(CALLS), TOLD)
        self.assertEqual(answers(CALLS), TOLD)
        self.assertEqual(answers(which()), [1, -11])
        self.assertEqual(answers(line([begin(2), rule(0, [1, 1]), rate(0, 0)])), [1, 0, 1, 0, 1, -33])

    def test_nothing_is_printed_or_imported(self):
        known = set(sys.modules)
        out = io.StringIO()
        err = io.StringIO()
        with contextlib.redirect_stdout(out), contextlib.redirect_stderr(err):
            answers(CALLS)
        self.assertEqual((out.getvalue(), err.getvalue()), ("", ""))
        self.assertEqual(set(sys.modules), known)


if __name__ == "__main__":
    unittest.main()
