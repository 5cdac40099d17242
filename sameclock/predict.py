"""Branch predictors (point 8.4)."""

FIRST_COUNT = 1
LEAST_TAKEN = 2
GREATEST_COUNT = 3


class Predictor:
    """A predictor: its counters, of which it may have none, and what it keeps of the branches before."""

    def __init__(self, settings):
        kind = settings[0]
        many = 0
        if kind == "two":
            many = settings[1]
        elif kind == "history":
            many = 1 << settings[1]
        self.counters = [FIRST_COUNT] * many
        # Without a history there is only the history 0.
        self.histories = many if kind == "history" else 1
        self.history = 0

    def guess(self, row):
        """Returns True if it guesses that the branch in this row is taken, otherwise False."""
        return not self.counters or self.counters[self.counter_of(row)] >= LEAST_TAKEN

    def learn(self, row, taken):
        """Learns whether the branch in this row was taken."""
        if not self.counters:
            return
        at = self.counter_of(row)
        if taken:
            self.counters[at] = min(self.counters[at] + 1, GREATEST_COUNT)
        else:
            self.counters[at] = max(self.counters[at] - 1, 0)
        self.history = (2 * self.history + (1 if taken else 0)) % self.histories

    def counter_of(self, row):
        """The index of the counter of a branch, as it is now."""
        return (row % len(self.counters)) ^ self.history
