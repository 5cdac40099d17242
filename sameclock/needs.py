"""Needed registers (point 5.8)."""

from sameclock.flow import ways_ahead
from sameclock.ir_form import parts_like, written

ALWAYS = ("store", "out", "jump", "branch", "stop")


class Needs:
    """Which rows have to be done, and which registers are needed at the beginnings of blocks.

    What a row reads is asked for once the row has to be done; the row that made it has to be done then, too, or
    the register is needed at the beginning of the block, and at the ends of all blocks that lead to it.
    """

    def __init__(self, blocks):
        self.ahead = ways_ahead(blocks)
        self.needed = [{} for _ in blocks]
        self.kept = [[False] * len(block) for block in blocks]
        # For each row the pairs of a register that it reads and the row of its block that made it, -1 if none did.
        self.makers = []
        self.last = []
        for block in blocks:
            makers, last = _makers(block)
            self.makers.append(makers)
            self.last.append(last)
        self.waiting = []
        for number, block in enumerate(blocks):
            for at, row in enumerate(block):
                if row[0] in ALWAYS:
                    self.keep(number, at)
        self.go()

    def keep(self, block, at):
        """This row has to be done."""
        if not self.kept[block][at]:
            self.kept[block][at] = True
            self.waiting.extend([(block, a, maker) for a, maker in self.makers[block][at]])

    def go(self):
        """Goes on until nothing more is asked for."""
        while self.waiting:
            block, a, maker = self.waiting.pop()
            if maker >= 0:
                self.keep(block, maker)
            elif a not in self.needed[block]:
                self.needed[block][a] = True
                for other in self.ahead[block]:
                    self.waiting.append((other, a, self.last[other].get(a, -1)))


def _makers(block):
    last = {}
    makers = []
    for at, row in enumerate(block):
        makers.append([(a, last.get(a, -1)) for a in parts_like(row, "read")])
        if written(row) >= 0:
            last[written(row)] = at
    return (makers, last)
