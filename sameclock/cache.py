"""Caches (points 8.1 to 8.3)."""

from sameclock.victims import Ages, Pointers


class Cache:
    """A cache: which lines it holds, and in which places."""

    def __init__(self, settings):
        sets, ways, line, policy = settings
        self.sets = sets
        self.line = line
        self.rows = [[None] * ways for _ in range(sets)]
        # The place of each line that is held.
        self.held = {}
        if policy == "plru":
            self.orders = [Pointers(ways) for _ in range(sets)]
        else:
            self.orders = [Ages(ways, policy == "lru") for _ in range(sets)]

    def line_of(self, address):
        """Returns the number of the line of an address."""
        return address // self.line

    def touch(self, address):
        """Touches an address; returns True for a hit, otherwise False."""
        number = address // self.line
        order = self.orders[number % self.sets]
        hit = number in self.held
        if not hit:
            self.put(number, order)
        order.note(self.held[number], not hit)
        return hit

    def put(self, number, order):
        """Puts a line into an empty place of its set, or into that of the victim."""
        row = self.rows[number % self.sets]
        if None in row:
            place = row.index(None)
        else:
            place = order.victim()
            del self.held[row[place]]
        row[place] = number
        self.held[number] = place

    def drop(self, address):
        """Makes the place of an address's line empty; returns True if the line was held, otherwise False."""
        number = address // self.line
        if number not in self.held:
            return False
        place = self.held.pop(number)
        self.rows[number % self.sets][place] = None
        return True

    def places(self, number):
        """Returns the tuple of the lines in the places of a set, None for an empty place."""
        return tuple(self.rows[number])
