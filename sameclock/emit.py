"""The machine code of programs in the intermediate form (points 6.5 and 6.6)."""

from sameclock.allocate import fits
from sameclock.errors import BadAllocation
from sameclock.ir import size_of
from sameclock.live import live_first

# The registers of the machine that are no places. Nothing writes the last one, so that it is 0 and public everywhere.
FIRST = 12
SECOND = 13
THIRD = 14
ZERO = 15


def regions_of(program, params, allocation):
    """Returns the tuple of the regions, by all places of an allocation."""
    parts = [(size_of(length), label) for _, length, label in program[0]]
    parts.extend([(1, label) for label in params])
    for label in ("public", "secret"):
        slots = [number for kind, number in allocation if kind == label]
        if slots:
            parts.append((size_of(max(slots) + 1), label))
    regions = []
    base = 0
    for size, label in parts:
        regions.append((base, size, label))
        base += size
    return tuple(regions)


def emit(program, params, allocation):
    """Returns the code of a program with an allocation; raises BadAllocation if it does not fit."""
    if not fits(program, params, allocation):
        raise BadAllocation()
    code = Emitted(program, regions_of(program, params, allocation), allocation)
    first = live_first(program)[0]
    # Another parameter may have the place of one that is live.
    code.params([a for a in range(program[1]) if a in first])
    for number, block in enumerate(program[2]):
        code.block(number, block)
    return (code.regions, code.finished())


class Emitted:
    """The rows of code, as far as they are written; jumps and branches name blocks."""

    def __init__(self, program, regions, allocation):
        self.regions = regions
        self.allocation = allocation
        self.cells = len(program[0])
        self.slots = {}
        for base, _, label in regions[self.cells + program[1]:]:
            self.slots[label] = base
        self.rows = []
        self.starts = []

    def params(self, registers):
        """Puts parameters into their places."""
        for a in registers:
            self.rows.append(("load", self.target(a), ZERO, self.regions[self.cells + a][0], 0))
            self.keep(a)

    def read(self, a, spare):
        """The register of the machine that holds a, which is a spare one if the place of a is a slot."""
        kind, number = self.allocation[a]
        if kind == "register":
            return number
        self.rows.append(("load", spare, ZERO, self.slots[kind] + number, 0))
        return spare

    def target(self, a):
        """The register of the machine in which a is made."""
        kind, number = self.allocation[a]
        return number if kind == "register" else FIRST

    def keep(self, a):
        """Puts what has been made into the place of a."""
        kind, number = self.allocation[a]
        if kind != "register":
            self.rows.append(("store", ZERO, self.slots[kind] + number, 0, FIRST))

    def block(self, number, block):
        """Writes the rows of the next block."""
        self.starts.append(len(self.rows))
        for row in block[:-1]:
            self.row(row)
        self.ending(block[-1], number + 1)

    def row(self, row):
        """Writes a row that does not end a block."""
        word = row[0]
        if word == "copy":
            self.copying(row[1], row[2])
        elif word == "store":
            base, size, _ = self.regions[row[1]]
            at = self.read(row[2], FIRST)
            self.rows.append(("store", at, base, size - 1, self.read(row[3], SECOND)))
        elif word == "out":
            self.rows.append(("out", self.read(row[1], FIRST)))
        else:
            x = row[2] if word == "op" else row[1]
            self.rows.append(self.made(row, self.target(x)))
            self.keep(x)

    def made(self, row, target):
        """The row that makes what a const, op, select or load makes, in a register of the machine."""
        word = row[0]
        if word == "const":
            return ("const", target, row[2])
        if word == "op":
            return ("op", row[1], target, self.read(row[3], FIRST), self.read(row[4], SECOND))
        if word == "select":
            c = self.read(row[2], FIRST)
            return ("select", target, c, self.read(row[3], SECOND), self.read(row[4], THIRD))
        base, size, _ = self.regions[row[2]]
        return ("load", target, self.read(row[3], FIRST), base, size - 1)

    def copying(self, x, a):
        """Writes a copy."""
        if self.allocation[x] == self.allocation[a]:
            return
        kind, number = self.allocation[x]
        if kind == "register":
            source = self.read(a, number)
            if source != number:
                self.rows.append(("op", "|", number, source, source))
        else:
            source = self.read(a, FIRST)
            self.rows.append(("store", ZERO, self.slots[kind] + number, 0, source))

    def ending(self, row, following):
        """Writes the last row of a block; following is the number of the next one."""
        word = row[0]
        if word == "stop":
            self.rows.append(("stop", self.read(row[1], FIRST)))
            return
        if word == "branch":
            self.rows.append(("branch", self.read(row[1], FIRST), row[2]))
        if row[-1] != following:
            self.rows.append(("jump", row[-1]))

    def finished(self):
        """The tuple of the rows; jumps and branches name rows."""
        rows = []
        for row in self.rows:
            if row[0] in ("jump", "branch"):
                rows.append(row[:-1] + (self.starts[row[-1]],))
            else:
                rows.append(row)
        return tuple(rows)
