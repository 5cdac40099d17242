"""The last rows of blocks, while their ways are made shorter (the first two changes of point 5.9)."""

from heapq import heappop, heappush

from sameclock.flow import ways_ahead
from sameclock.ir_form import parts_like


class Endings:
    """The last row of each block, and where going along blocks that are jumps alone comes to.

    A block that has become a jump alone stays one, so that what is known of the ways behind it is only added to:
    leads has for each block one that lies ahead on such a way, or itself where the way ends.
    """

    def __init__(self, blocks):
        self.lasts = [block[-1] for block in blocks]
        self.single = [len(block) == 1 for block in blocks]
        self.ahead = ways_ahead(blocks)
        self.leads = list(range(len(blocks)))
        self.rings = [False] * len(blocks)
        self.alone = [False] * len(blocks)
        # All blocks, the least one first.
        self.waiting = list(range(len(blocks)))
        for block in range(len(blocks)):
            self.change(block, self.lasts[block])
        self.go()

    def go(self):
        """Makes ways shorter, one at a time, always for the least block, until none can be."""
        while self.waiting:
            block = heappop(self.waiting)
            row = self.shorter(self.lasts[block])
            if row != self.lasts[block]:
                for way in parts_like(row, "block"):
                    self.ahead[way].append(block)
                heappush(self.waiting, block)
                self.change(block, row)

    def shorter(self, row):
        """A last row with the first way that can be made shorter made so, or as it is."""
        if row[0] == "jump":
            return ("jump", self.way(row[1]))
        if row[0] == "branch" and self.way(row[2]) != row[2]:
            return ("branch", row[1], self.way(row[2]), row[3])
        if row[0] == "branch":
            return ("branch", row[1], row[2], self.way(row[3]))
        return row

    def way(self, block):
        """Where a way to a block may go at once; ways into rings stay."""
        end = self.end_of(block)
        return block if self.rings[end] else end

    def end_of(self, block):
        """The block that going along jumps alone comes to, or one block of a ring."""
        trail = []
        end = block
        while self.leads[end] != end:
            trail.append(end)
            end = self.leads[end]
        for other in trail:
            self.leads[other] = end
        return end

    def change(self, block, row):
        """A block gets this last row; two ways to the same block are a jump."""
        if row[0] == "branch" and row[2] == row[3]:
            self.lasts[block] = ("jump", row[2])
        else:
            self.lasts[block] = row
        if self.single[block] and self.lasts[block][0] == "jump" and not self.alone[block]:
            self.alone[block] = True
            self.pass_by(block)

    def pass_by(self, block):
        """A block has become a jump alone, so the ways to it can be made shorter, if it is in no ring."""
        end = self.end_of(self.lasts[block][1])
        if end == block:
            self.rings[block] = True
            return
        self.leads[block] = end
        for other in self.ahead[block]:
            heappush(self.waiting, other)
