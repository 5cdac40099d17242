"""Pieces of programs in the intermediate form, while they are written."""

from sameclock.ir_form import FORMS


class Fragment:
    """Blocks and registers of their own; the block that is written now has no last row yet."""

    def __init__(self, held):
        self.blocks = [[]]
        self.now = 0
        self.held = held

    def fresh(self):
        """A register that is not used yet."""
        self.held += 1
        return self.held - 1

    def write(self, row):
        """Writes a row behind those of the block that is written now."""
        self.blocks[self.now].append(row)

    def open_block(self):
        """The index of one more block; it is not yet the one that is written now."""
        self.blocks.append([])
        return len(self.blocks) - 1

    def end_block(self, row, block):
        """Writes the last row of this block; another one is written from now on."""
        self.write(row)
        self.now = block

    def number(self, n):
        """A fresh register with a number."""
        made = self.fresh()
        self.write(("const", made, n))
        return made

    def twin(self, a):
        """A fresh register with what a register holds."""
        made = self.fresh()
        self.write(("copy", made, a))
        return made

    def op(self, sign, a, b):
        """A fresh register with what a sign makes of two registers."""
        made = self.fresh()
        self.write(("op", sign, made, a, b))
        return made

    def select(self, c, a, b):
        """A fresh register with one of two registers."""
        made = self.fresh()
        self.write(("select", made, c, a, b))
        return made

    def load(self, array, at):
        """A fresh register with a cell of an array."""
        made = self.fresh()
        self.write(("load", made, array, at))
        return made

    def hold(self, other):
        """Takes as many registers as another fragment holds; gives the number of the first one."""
        base = self.held
        self.held += other.held
        return base

    def place(self, other, base):
        """Writes what another fragment does, with the registers from base on."""
        behind = len(self.blocks) - 1
        moved = [[_moved(row, base, behind) for row in rows] for rows in other.blocks]
        # The first block of a fragment is no target of its own rows, so it may stand behind those of this one.
        self.blocks[self.now].extend(moved[0])
        self.blocks.extend(moved[1:])
        if other.now > 0:
            self.now = other.now + behind


def _moved(row, base, behind):
    """A row with its registers and blocks moved on by so many."""
    parts = [row[0]]
    for part, kind in zip(row[1:], FORMS[row[0]]):
        if kind in ("read", "write"):
            parts.append(part + base)
        elif kind == "block":
            parts.append(part + behind)
        else:
            parts.append(part)
    return tuple(parts)
