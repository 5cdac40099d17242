"""How long the registers of a program are held, its blocks being in one row."""

from sameclock.flow import order_of, ways_of
from sameclock.ir_form import parts_like, written
from sameclock.live import live_first


def extents_of(program):
    """Returns the ascending list of the triples (first, last, register) of the points where registers are held.

    The point 0 is the beginning; behind each row there is the next point, in an order of the blocks in which those that
    lead to a block stand ahead of it, but for ways back. A register is held where it is live or has just been written,
    and from the first point where this is so to the last one.
    """
    blocks = program[2]
    first = live_first(program)
    order = order_of(blocks)
    come_to = {block: True for block in order}
    extents = Extents()
    for a in first[0]:
        extents.hold(a, 0)
    point = 0
    for block in order + [block for block in range(len(blocks)) if block not in come_to]:
        behind = {a: True for way in ways_of(blocks[block]) for a in first[way]}
        extents.block(blocks[block], point, behind)
        point += len(blocks[block])
    return sorted([(extents.begins[a], extents.ends[a], a) for a in extents.begins])


class Extents:
    """The first and the last point of each register."""

    def __init__(self):
        self.begins = {}
        self.ends = {}

    def hold(self, a, point):
        """A register is held at a point, too."""
        self.begins[a] = min(self.begins.get(a, point), point)
        self.ends[a] = max(self.ends.get(a, point), point)

    def block(self, block, point, behind):
        """Takes the rows of a block, ahead of which a point is; behind tells what is live behind them."""
        changed = {}
        for at, row in enumerate(block):
            if at > 0:
                for a in parts_like(row, "read"):
                    self.hold_from(a, point, point + at, changed)
            if written(row) >= 0:
                changed[written(row)] = True
                self.hold(written(row), point + at + 1)
        for a in behind:
            self.hold_from(a, point, point + len(block), changed)

    def hold_from(self, a, start, point, changed):
        """A register is held at a point, and behind the first row of the block if the block has not written it."""
        self.hold(a, point)
        if a not in changed:
            self.hold(a, start + 1)
