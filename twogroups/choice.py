"""The calls on one table of two groups, and what is answered to them."""

from twogroups.table import KINDS, Table, difference

NO_SUCH = -2
NOT_BEGUN = -11
NOT_RIGHT = -22
NOT_THERE = -33

MOST_SCORES = 4
MOST_PEOPLE = 99

BEGIN = 0
COUNT = 1
RULE = 2
RATE = 3
ALIKE = 4
GAP = 5
WHICH = 6

# How many whole numbers stand behind each call's number, ahead of its row: from begin to state.
# The calls that aren't answered yet are here too: ahead of a begin they are refused like all others.
ARGUMENTS = (1, 4, 1, 2, 1, 1, 0, 0, 0, 2, 2, 1, 3, 0)


def count(table, group, score, so, not_so):
    if not table.has_cell(group, score):
        return [NO_SUCH]
    if so > MOST_PEOPLE or not_so > MOST_PEOPLE:
        return [NOT_RIGHT]
    table.set_cell(group, score, so, not_so)
    return [so + not_so]


def rule(table, group, row):
    if not table.has_group(group):
        return [NO_SUCH]
    if not table.fits(row):
        return [NOT_RIGHT]
    table.set_row(group, row)
    return [table.chosen_people(group)]


def rate(table, kind, group):
    if not table.has_group(group):
        return [NO_SUCH]
    if kind >= KINDS:
        return [NOT_RIGHT]
    fraction = table.rate(kind, group)
    if fraction is None:
        return [NOT_THERE]
    return [0, fraction[0], fraction[1]]


def alike(table, kind):
    if kind >= KINDS:
        return [NOT_RIGHT]
    if not table.has_both(kind):
        return [NOT_THERE]
    return [1 if table.is_alike(kind) else 0]


def gap(table, kind):
    if kind >= KINDS:
        return [NOT_RIGHT]
    if not table.has_both(kind):
        return [NOT_THERE]
    fraction = difference(table.rate(kind, 0), table.rate(kind, 1))
    return [0, fraction[0], fraction[1]]


def which(table):
    kinds = [kind for kind in range(KINDS) if table.is_alike(kind)]
    return [len(kinds)] + kinds


def answer_begun(table, call):
    """What is answered to a call, other than begin, on a table that is there."""
    number = call[0]
    if number == COUNT:
        return count(table, call[1], call[2], call[3], call[4])
    if number == RULE:
        # call[2] is how many numbers the row has.
        return rule(table, call[1], call[3:])
    if number == RATE:
        return rate(table, call[1], call[2])
    if number == ALIKE:
        return alike(table, call[1])
    if number == GAP:
        return gap(table, call[1])
    if number == WHICH:
        return which(table)
    raise NotImplementedError("this call is not answered yet")


class Session:
    """The object of one line: the table of its last begin that was answered 0, if there was one."""

    def __init__(self):
        self.table = None

    def begin(self, scores):
        if scores < 1 or scores > MOST_SCORES:
            return [NOT_RIGHT]
        self.table = Table(scores)
        return [0]

    def answer(self, call):
        if call[0] == BEGIN:
            return self.begin(call[1])
        if self.table is None:
            return [NOT_BEGUN]
        return answer_begun(self.table, call)


def call_end(calls, start):
    """Where the call that begins at start has ended."""
    end = start + 1 + ARGUMENTS[calls[start]]
    if calls[start] == RULE:
        end = end + 1 + calls[end]
    return end


def answers(calls):
    """For each call in the list: how many numbers are answered, and these."""
    session = Session()
    told = []
    start = 0
    while start < len(calls):
        end = call_end(calls, start)
        numbers = session.answer(calls[start:end])
        told.append(len(numbers))
        told.extend(numbers)
        start = end
    return told
