"""The people of two groups, the rule that chooses among them, and the rates of its guesses."""

GROUPS = 2
KINDS = 7


def shortened(upper, lower):
    """The fraction with nothing in common above and below; lower is 1 or more."""
    shared = lower
    rest = abs(upper)
    while rest > 0:
        left_over = shared % rest
        shared = rest
        rest = left_over
    return (upper // shared, lower // shared)


def difference(first, second):
    """The first fraction less the second one."""
    upper = first[0] * second[1] - second[0] * first[1]
    return shortened(upper, first[1] * second[1])


def chosen_sum(numbers, row):
    """How many there are at the scores that the row chooses."""
    return sum([numbers[score] for score in range(len(row)) if row[score] == 1])


def all_rows(scores):
    """Every row that so many scores can have; of two rows the one with 0 where they first differ comes first."""
    rows = [[]]
    while len(rows[0]) < scores:
        rows = [[0] + row for row in rows] + [[1] + row for row in rows]
    return rows


def rate_of(so, not_so, row, kind):
    """The rate of a kind in a group of such people under such a row, or None if it isn't there."""
    all_so = sum(so)
    all_not_so = sum(not_so)
    everyone = all_so + all_not_so
    rightly_chosen = chosen_sum(so, row)
    wrongly_chosen = chosen_sum(not_so, row)
    chosen = rightly_chosen + wrongly_chosen
    rightly_left = all_not_so - wrongly_chosen
    # One pair for each kind, so that a kind's number is its place here.
    pairs = (
        (all_so, everyone),
        (chosen, everyone),
        (rightly_chosen, all_so),
        (wrongly_chosen, all_not_so),
        (rightly_chosen, chosen),
        (rightly_left, everyone - chosen),
        (rightly_chosen + rightly_left, everyone),
    )
    pair = pairs[kind]
    if pair[1] == 0:
        return None
    return shortened(pair[0], pair[1])


def is_same(first, second):
    """Whether two rates are there and the same."""
    # Fractions are kept shortened, so the same rate is the same pair.
    return first is not None and first == second


def same_count(first, second):
    """At how many places two lists of rates have the same one."""
    return len([at for at in range(len(first)) if is_same(first[at], second[at])])


class Table:
    """For each group and score how many turned out so and not so, and for each group its row of the rule."""

    def __init__(self, scores):
        self.scores = scores
        self.so = [[0] * scores, [0] * scores]
        self.not_so = [[0] * scores, [0] * scores]
        self.rows = [[0] * scores, [0] * scores]

    def has_group(self, group):
        return group < GROUPS

    def has_cell(self, group, score):
        return self.has_group(group) and score < self.scores

    def fits(self, row):
        return len(row) == self.scores and all([mark <= 1 for mark in row])

    def set_cell(self, group, score, so, not_so):
        self.so[group][score] = so
        self.not_so[group][score] = not_so

    def set_row(self, group, row):
        self.rows[group] = list(row)

    def chosen_people(self, group):
        """How many people of the group are chosen."""
        row = self.rows[group]
        return chosen_sum(self.so[group], row) + chosen_sum(self.not_so[group], row)

    def rate(self, kind, group):
        """The rate as a fraction, or None if it isn't there."""
        return rate_of(self.so[group], self.not_so[group], self.rows[group], kind)

    def has_both(self, kind):
        """Whether the rate is there in both groups."""
        return self.rate(kind, 0) is not None and self.rate(kind, 1) is not None

    def is_alike(self, kind):
        return is_same(self.rate(kind, 0), self.rate(kind, 1))

    def rate_if_flipped(self, kind, group, score):
        """The rate that would be there if the score were chosen, being not, or the other way about."""
        row = list(self.rows[group])
        row[score] = 1 - row[score]
        return rate_of(self.so[group], self.not_so[group], row, kind)

    def parts_group(self, group, row):
        """Whether by the row somebody of the group is chosen, and somebody isn't."""
        so = self.so[group]
        not_so = self.not_so[group]
        chosen = chosen_sum(so, row) + chosen_sum(not_so, row)
        return chosen > 0 and chosen < sum(so) + sum(not_so)

    def rule_rates(self, group, row):
        """The rates that a rule is judged by, as they'd be by such a row: all but kind 0, which no rule changes."""
        return [rate_of(self.so[group], self.not_so[group], row, kind) for kind in range(1, KINDS)]

    def parting_rows(self, group):
        """The rows that part the group, in order, each with its rates."""
        rows = [row for row in all_rows(self.scores) if self.parts_group(group, row)]
        return [(row, self.rule_rates(group, row)) for row in rows]

    def best_rule(self):
        """How many kinds are alike at most, and the first such rule's rows; None if no rule parts both groups."""
        found = None
        seconds = self.parting_rows(1)
        for first in self.parting_rows(0):
            for second in seconds:
                kinds = same_count(first[1], second[1])
                # Only a better one takes the place, so that of equals the first one stays.
                if found is None or kinds > found[0]:
                    found = (kinds, first[0], second[0])
        return found
