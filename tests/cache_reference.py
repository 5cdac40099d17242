"""Caches and predictors that know nothing but the log of what was done, and go over it anew for each answer."""


class LogCache:
    """Its log has, for each set, the triples (what, line, place) of all that changed or touched the set."""

    def __init__(self, settings):
        self.sets, self.ways, self.line, self.policy = settings
        self.log = {number: [] for number in range(self.sets)}

    def number_and_log(self, address):
        line = (address - address % self.line) // self.line
        return line, self.log[line % self.sets]

    def held(self, log):
        """The lines in the places of a set, by the last thing that was done in each place."""
        places = []
        for place in range(self.ways):
            done = [(what, line) for what, line, at in log if at == place]
            places.append(done[-1][1] if done and done[-1][0] != "drop" else None)
        return places

    def places(self, number):
        return tuple(self.held(self.log[number]))

    def touch(self, address):
        line, log = self.number_and_log(address)
        places = self.held(log)
        if line in places:
            log.append(("hit", line, places.index(line)))
            return True
        log.append(("put", line, places.index(None) if None in places else self.victim(log, places)))
        return False

    def drop(self, address):
        line, log = self.number_and_log(address)
        places = self.held(log)
        if line not in places:
            return False
        log.append(("drop", line, places.index(line)))
        return True

    def victim(self, log, places):
        if self.policy == "plru":
            return self.led(log, 0, self.ways)
        counted = ("put", "hit") if self.policy == "lru" else ("put",)
        return min(range(self.ways), key=lambda place: max(at for at, (what, line, _) in enumerate(log) if what in counted and line == places[place]))

    def led(self, log, low, high):
        """The place to which the pointers lead from the node over the places from low to high."""
        if high - low == 1:
            return low
        middle = (low + high) // 2
        touched = [place for what, _, place in log if what != "drop" and low <= place < high]
        if touched and touched[-1] < middle:
            return self.led(log, middle, high)
        return self.led(log, low, middle)


class LogPredictor:
    """Its log has the pairs (row, taken) of all that was learned."""

    def __init__(self, settings):
        self.settings = settings
        self.log = []

    def index(self, row, many):
        """The counter of a branch behind so many learned ones."""
        if self.settings[0] == "two":
            return row % self.settings[1]
        bits = self.settings[1]
        last = [taken for _, taken in self.log[:many]][-bits:]
        return (row % 2 ** bits) ^ int("0" + "".join(str(int(taken)) for taken in last), 2)

    def guess(self, row):
        if self.settings[0] == "taken":
            return True
        wanted = self.index(row, len(self.log))
        count = 1
        for many, (other, taken) in enumerate(self.log):
            if self.index(other, many) == wanted:
                count = sorted((0, count + 1 if taken else count - 1, 3))[1]
        return count in (2, 3)

    def learn(self, row, taken):
        self.log.append((row, taken))
