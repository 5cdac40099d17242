"""Which line of a full set of a cache gives its place to a new one (point 8.2)."""


class Ages:
    """The order in which the lines in the places of a set were touched last, or were put in."""

    def __init__(self, ways, by_touch):
        self.ages = [0] * ways
        self.by_touch = by_touch
        self.now = 0

    def note(self, place, missed):
        """The line in a place is touched; it was put in just now if the touching missed."""
        if missed or self.by_touch:
            self.now += 1
            self.ages[place] = self.now

    def victim(self):
        """The place of the victim."""
        return self.ages.index(min(self.ages))


class Pointers:
    """The tree over the places of a set.

    Its root is the node 1, and the halves of the node k are 2 * k and 2 * k + 1; the leaves come last.
    """

    def __init__(self, ways):
        self.ways = ways
        # 0 for a node that points to the left, 1 for one that points to the right.
        self.sides = [0] * ways

    def note(self, place, _):
        """The line in a place is touched."""
        node = self.ways + place
        while node > 1:
            self.sides[node // 2] = 1 - (node & 1)
            node = node // 2

    def victim(self):
        """The place of the victim."""
        node = 1
        while node < self.ways:
            node = 2 * node + self.sides[node]
        return node - self.ways
