"""The people of two groups, the rule that chooses among them, and the rates of its guesses."""

GROUPS = 2
KINDS = 7


def shortened(upper, lower):
    """The fraction with nothing in common above and below; lower is 1 or more."""
    shared = lower
    rest = abs(upper)
    while rest > 0:
        left_over = shared % rest
        shared = rest
        rest = left_over
    return (upper // shared, lower // shared)


def difference(first, second):
    """The first fraction less the second one."""
    upper = first[0] * second[1] - second[0] * first[1]
    return shortened(upper, first[1] * second[1])


def chosen_sum(numbers, row):
    """How many there are at the scores that the row chooses."""
    return sum([numbers[score] for score in range(len(row)) if row[score] == 1])


def rate_of(so, not_so, row, kind):
    """The rate of a kind in a group of such people under such a row, or None if it isn't there."""
    all_so = sum(so)
    all_not_so = sum(not_so)
    everyone = all_so + all_not_so
    rightly_chosen = chosen_sum(so, row)
    wrongly_chosen = chosen_sum(not_so, row)
    chosen = rightly_chosen + wrongly_chosen
    rightly_left = all_not_so - wrongly_chosen
    # One pair for each kind, so that a kind's number is its place here.
    pairs = (
        (all_so, everyone),
        (chosen, everyone),
        (rightly_chosen, all_so),
        (wrongly_chosen, all_not_so),
        (rightly_chosen, chosen),
        (rightly_left, everyone - chosen),
        (rightly_chosen + rightly_left, everyone),
    )
    pair = pairs[kind]
    if pair[1] == 0:
        return None
    return shortened(pair[0], pair[1])


class Table:
    """For each group and score how many turned out so and not so, and for each group its row of the rule."""

    def __init__(self, scores):
        self.scores = scores
        self.so = [[0] * scores, [0] * scores]
        self.not_so = [[0] * scores, [0] * scores]
        self.rows = [[0] * scores, [0] * scores]

    def has_group(self, group):
        return group < GROUPS

    def has_cell(self, group, score):
        return self.has_group(group) and score < self.scores

    def fits(self, row):
        return len(row) == self.scores and all([mark <= 1 for mark in row])

    def set_cell(self, group, score, so, not_so):
        self.so[group][score] = so
        self.not_so[group][score] = not_so

    def set_row(self, group, row):
        self.rows[group] = list(row)

    def chosen_people(self, group):
        """How many people of the group are chosen."""
        row = self.rows[group]
        return chosen_sum(self.so[group], row) + chosen_sum(self.not_so[group], row)

    def rate(self, kind, group):
        """The rate as a fraction, or None if it isn't there."""
        return rate_of(self.so[group], self.not_so[group], self.rows[group], kind)

    def has_both(self, kind):
        """Whether the rate is there in both groups."""
        return self.rate(kind, 0) is not None and self.rate(kind, 1) is not None

    def is_alike(self, kind):
        # Fractions are kept shortened, so the same rate is the same pair.
        return self.has_both(kind) and self.rate(kind, 0) == self.rate(kind, 1)
