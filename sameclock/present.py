"""The values that are there while the rows of a block are gone through (point 5.7)."""

from sameclock.ir_form import WRITTEN, parts_like, written


class Present:
    """The values that are there, each with the register that holds it.

    A register that is noted with a value is written by one row of the program alone, so that it holds the value until
    the block ends.
    """

    def __init__(self):
        self.noted = {}
        self.readers = {}
        self.loads = {}

    def go(self, row):
        """Takes off what a row ends."""
        self.take_off(self.readers.pop(written(row), {}))
        if row[0] == "store":
            self.take_off(self.loads.pop(row[1], {}))

    def take_off(self, found):
        """Takes values off."""
        for value in found:
            self.noted.pop(value, None)

    def note(self, row):
        """The value of a row is there from now on."""
        value = value_of(row)
        self.noted[value] = written(row)
        for a in parts_like(row, "read"):
            self.readers.setdefault(a, {})[value] = True
        if row[0] == "load":
            self.loads.setdefault(row[2], {})[value] = True


def value_of(row):
    """Returns an op, select or load without the register that it writes, or None for another row."""
    if row[0] not in ("op", "select", "load"):
        return None
    at = WRITTEN[row[0]]
    return row[:at] + row[at + 1:]
