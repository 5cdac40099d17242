"""The machine: caches, guesses, wrong ways and a clock (points 8.5 to 8.11)."""

from sameclock.cache import Cache
from sameclock.code_form import REGISTERS
from sameclock.memory import address_of, contents_of, memory_of, word_of
from sameclock.predict import Predictor

# Where the registers stand for which a row waits; a branch does not wait for the one that it reads.
WAITS_FOR = {
    "const": (), "op": (3, 4), "select": (2, 3, 4), "load": (2,), "store": (1, 4), "out": (1,), "jump": (),
    "branch": (), "stop": (1,),
}
PLAIN_COST = 1
LOAD_COST = 2
TIMES_COST = 3
DIVIDE_COST = 4


def cost_of(sign, a, b):
    """Returns the cost of an op with a sign on two words."""
    if sign == "*":
        return TIMES_COST
    if sign in ("div", "mod"):
        return DIVIDE_COST + max(a.bit_length() - b.bit_length(), 0)
    return PLAIN_COST


def run_machine(code, contents, settings, steps):
    """Returns the outs, the result, the contents of the regions at the end, and the trace."""
    machine = Machine(code[1], contents, settings)
    result = machine.run(steps)
    return (tuple(machine.outs), result, contents_of(code[0], machine.memory), tuple(machine.trace))


class Way:
    """The registers on a way, and the times at which they are ready.

    stored has what was stored on a wrong way, which does not come to the memory; it is None on the right way.
    """

    def __init__(self, held, ready, stored):
        self.held = held
        self.ready = ready
        self.stored = stored

    def write(self, x, word, time):
        """A register holds a word, and is ready at a time."""
        self.held[x] = word
        self.ready[x] = time


class Machine:
    """The machine while it runs, with all that it puts out and shows."""

    def __init__(self, rows, contents, settings):
        data, fetch, predictor, depth, costs, before, visits = settings
        self.rows = rows
        self.memory = memory_of(contents)
        self.data_cache = Cache(data)
        self.fetch_cache = Cache(fetch)
        self.predictor = Predictor(predictor)
        self.depth = depth
        self.miss, self.wrong = costs
        self.visits = visits
        self.visits_made = 0
        self.fetches = 0
        self.clock = 0
        self.outs = []
        self.trace = []
        for preparation in before:
            self.prepare(preparation)

    def prepare(self, preparation):
        """Does a preparation."""
        kind = preparation[0]
        if kind == "data":
            self.data_cache.touch(preparation[1])
        elif kind == "fetch":
            self.fetch_cache.touch(preparation[1])
        else:
            self.predictor.learn(preparation[1], preparation[2])

    def run(self, steps):
        """Goes the right way, for at most so many rows; returns the word of the stop, or None."""
        way = Way([0] * REGISTERS, [0] * REGISTERS, None)
        at = 0
        for _ in range(steps):
            row = self.rows[at]
            self.fetch(at)
            self.wait(row, way)
            if row[0] == "stop":
                self.trace.append(("stop", self.clock))
                return way.held[row[1]]
            at = self.branch(at, way) if row[0] == "branch" else self.do(at, way)
        return None

    def fetch(self, at):
        """Makes the visits that come ahead of a fetch, and fetches a row."""
        while self.visits_made < len(self.visits) and self.visits[self.visits_made][0] <= self.fetches:
            self.visit(self.visits[self.visits_made])
            self.visits_made += 1
        hit = self.fetch_cache.touch(at)
        self.trace.append(("fetch", self.clock, self.fetch_cache.line_of(at), hit))
        if not hit:
            self.clock += self.miss
        self.fetches += 1

    def visit(self, visit):
        """Makes a visit."""
        _, kind, address = visit
        found = self.data_cache.touch(address) if kind == "touch" else self.data_cache.drop(address)
        self.trace.append((kind, self.clock, self.data_cache.line_of(address), found))

    def wait(self, row, way):
        """Waits until the registers are ready that a row waits for."""
        for part in WAITS_FOR[row[0]]:
            self.clock = max(self.clock, way.ready[row[part]])

    def do(self, at, way):
        """Does a row that is no branch and no stop; returns the row that comes next."""
        row = self.rows[at]
        word = row[0]
        held = way.held
        if word == "op":
            cost = cost_of(row[1], held[row[3]], held[row[4]])
            way.write(row[2], word_of(row, held), self.clock + cost)
        elif word == "load":
            self.load(row, way)
        elif word == "store":
            self.store(row, way)
        elif word == "out":
            self.put_out(held[row[1]], way)
        elif word != "jump":
            way.write(row[1], word_of(row, held), self.clock + PLAIN_COST)
        self.clock += 1
        return row[1] if word == "jump" else at + 1

    def load(self, row, way):
        """Does a load."""
        address = address_of(row, way.held)
        cost = LOAD_COST if self.touch_data(address) else LOAD_COST + self.miss
        word = self.memory.get(address, 0)
        if way.stored is not None:
            word = way.stored.get(address, word)
        way.write(row[1], word, self.clock + cost)

    def store(self, row, way):
        """Does a store, which nobody sees on a wrong way."""
        address = address_of(row, way.held)
        if way.stored is None:
            self.touch_data(address)
            self.memory[address] = way.held[row[4]]
        else:
            way.stored[address] = way.held[row[4]]

    def put_out(self, word, way):
        """Puts a word out, but not on a wrong way."""
        if way.stored is None:
            self.trace.append(("out", self.clock, word))
            self.outs.append(word)

    def touch_data(self, address):
        """Touches the data cache; returns True for a hit, otherwise False."""
        hit = self.data_cache.touch(address)
        self.trace.append(("data", self.clock, self.data_cache.line_of(address), hit))
        return hit

    def guess(self, at):
        """Guesses for a branch; returns True if it is guessed to be taken, otherwise False."""
        guessed = self.predictor.guess(at)
        self.trace.append(("guess", self.clock, at, guessed))
        self.clock += 1
        return guessed

    def branch(self, at, way):
        """Does a branch on the right way; returns the row that comes next."""
        _, a, target = self.rows[at]
        end = max(self.clock, way.ready[a]) + self.wrong
        taken = way.held[a] != 0
        guessed = self.guess(at)
        if guessed != taken:
            wrong = Way(list(way.held), list(way.ready), {})
            self.go_wrong(target if guessed else at + 1, wrong, end)
            self.clock = end
            self.trace.append(("back", end, at))
        self.predictor.learn(at, taken)
        return target if taken else at + 1

    def go_wrong(self, start, way, end):
        """Goes a wrong way from a row on, at most until the clock comes to its end."""
        at = start
        done = 0
        while done < self.depth and self.clock < end:
            row = self.rows[at]
            self.fetch(at)
            self.wait(row, way)
            if self.clock >= end or row[0] == "stop":
                return
            if row[0] == "branch":
                at = row[2] if self.guess(at) else at + 1
            else:
                at = self.do(at, way)
            done += 1
