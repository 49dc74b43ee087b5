"""The calls on one table of two groups, and what is answered to them."""

from twogroups.table import KINDS, Table, difference

NO_SUCH = -2
NOT_BEGUN = -11
NOT_RIGHT = -22
NOT_THERE = -33

MOST_SCORES = 4
MOST_PEOPLE = 99

BEGIN = 0
COUNT = 1
RULE = 2
RATE = 3
ALIKE = 4
GAP = 5
WHICH = 6
BEST = 7
TAKE = 8
ABOVE = 9
CELL = 10
PEOPLE = 11
IFPICK = 12

# How many whole numbers stand behind each call's number, ahead of its row: from begin to state.
ARGUMENTS = (1, 4, 1, 2, 1, 1, 0, 0, 0, 2, 2, 1, 3, 0)


def told_fraction(fraction):
    """What is answered for a rate that is there as a fraction, or isn't there, being None."""
    if fraction is None:
        return [NOT_THERE]
    return [0, fraction[0], fraction[1]]


def count(table, group, score, so, not_so):
    if not table.has_cell(group, score):
        return [NO_SUCH]
    if so > MOST_PEOPLE or not_so > MOST_PEOPLE:
        return [NOT_RIGHT]
    table.set_cell(group, score, so, not_so)
    return [so + not_so]


def rule(table, group, row):
    if not table.has_group(group):
        return [NO_SUCH]
    if not table.fits(row):
        return [NOT_RIGHT]
    table.set_row(group, row)
    return [table.chosen_people(group)]


def rate(table, kind, group):
    if not table.has_group(group):
        return [NO_SUCH]
    if kind >= KINDS:
        return [NOT_RIGHT]
    return told_fraction(table.rate(kind, group))


def alike(table, kind):
    if kind >= KINDS:
        return [NOT_RIGHT]
    if not table.has_both(kind):
        return [NOT_THERE]
    return [1 if table.is_alike(kind) else 0]


def gap(table, kind):
    if kind >= KINDS:
        return [NOT_RIGHT]
    if not table.has_both(kind):
        return [NOT_THERE]
    return told_fraction(difference(table.rate(kind, 0), table.rate(kind, 1)))


def which(table):
    kinds = [kind for kind in range(KINDS) if table.is_alike(kind)]
    return [len(kinds)] + kinds


def best(table):
    found = table.best_rule()
    if found is None:
        return [NOT_THERE]
    return [found[0]] + found[1] + found[2]


def take(table):
    found = table.best_rule()
    if found is None:
        return [NOT_THERE]
    table.set_row(0, found[1])
    table.set_row(1, found[2])
    return [found[0]]


def above(table, group, score):
    if not table.has_cell(group, score):
        return [NO_SUCH]
    table.set_row(group, [1 if at >= score else 0 for at in range(table.scores)])
    return [table.chosen_people(group)]


def cell(table, group, score):
    if not table.has_cell(group, score):
        return [NO_SUCH]
    return [table.so[group][score], table.not_so[group][score]]


def people(table, group):
    if not table.has_group(group):
        return [NO_SUCH]
    all_so = sum(table.so[group])
    return [all_so + sum(table.not_so[group]), all_so]


def ifpick(table, group, score, kind):
    if not table.has_cell(group, score):
        return [NO_SUCH]
    if kind >= KINDS:
        return [NOT_RIGHT]
    return told_fraction(table.rate_if_flipped(kind, group, score))


def state(table):
    return [table.scores] + table.rows[0] + table.rows[1]


def answer_begun(table, call):
    """What is answered to a call, other than begin, on a table that is there."""
    number = call[0]
    if number == COUNT:
        return count(table, call[1], call[2], call[3], call[4])
    if number == RULE:
        # call[2] is how many numbers the row has.
        return rule(table, call[1], call[3:])
    if number == RATE:
        return rate(table, call[1], call[2])
    if number == ALIKE:
        return alike(table, call[1])
    if number == GAP:
        return gap(table, call[1])
    if number == WHICH:
        return which(table)
    if number == BEST:
        return best(table)
    if number == TAKE:
        return take(table)
    if number == ABOVE:
        return above(table, call[1], call[2])
    if number == CELL:
        return cell(table, call[1], call[2])
    if number == PEOPLE:
        return people(table, call[1])
    if number == IFPICK:
        return ifpick(table, call[1], call[2], call[3])
    # Of the calls that are handed in only state is left.
    return state(table)


class Session:
    """The object of one line: the table of its last begin that was answered 0, if there was one."""

    def __init__(self):
        self.table = None

    def begin(self, scores):
        if scores < 1 or scores > MOST_SCORES:
            return [NOT_RIGHT]
        self.table = Table(scores)
        return [0]

    def answer(self, call):
        if call[0] == BEGIN:
            return self.begin(call[1])
        if self.table is None:
            return [NOT_BEGUN]
        return answer_begun(self.table, call)


def call_end(calls, start):
    """Where the call that begins at start has ended."""
    end = start + 1 + ARGUMENTS[calls[start]]
    if calls[start] == RULE:
        end = end + 1 + calls[end]
    return end


def answers(calls):
    """For each call in the list: how many numbers are answered, and these."""
    session = Session()
    told = []
    start = 0
    while start < len(calls):
        end = call_end(calls, start)
        numbers = session.answer(calls[start:end])
        told.append(len(numbers))
        told.extend(numbers)
        start = end
    return told
