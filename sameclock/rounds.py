"""Rows that go over all cells of an array, or all digits of a word, whatever a secret is (point 4.5)."""

from sameclock.fragment import Fragment

DIGITS = 32


class Rounds(Fragment):
    """A fragment that is written with loops whose counts are the same for all secrets."""

    def begin_rounds(self, many):
        """Begins a loop; gives its count, which goes down to 0 in the last one of so many rounds, and its block."""
        count = self.number(many)
        one = self.number(1)
        head = self.open_block()
        self.end_block(("jump", head), head)
        self.write(("op", "-", count, count, one))
        return (count, head)

    def end_rounds(self, count, head):
        """Ends a loop."""
        behind = self.open_block()
        self.end_block(("branch", count, head, behind), behind)

    def read_all(self, array, length, at):
        """A register with the cell of an array that a register tells, or 0; all cells are read."""
        found = self.number(0)
        count, head = self.begin_rounds(length)
        cell = self.load(array, count)
        here = self.op("==", count, at)
        self.write(("select", found, here, cell, found))
        self.end_rounds(count, head)
        return found

    def store_all(self, array, length, at, value):
        """Stores into the cell of an array that a register tells; all cells are read and written."""
        count, head = self.begin_rounds(length)
        cell = self.load(array, count)
        here = self.op("==", count, at)
        self.write(("store", array, count, self.select(here, value, cell)))
        self.end_rounds(count, head)

    def divide(self, a, b):
        """The registers of a div b and of a mod b, found digit by digit."""
        rest = self.number(0)
        # Its digits leave it at the left, one in each round, and those of the result come in at the right.
        digits = self.twin(a)
        last = self.number(DIGITS - 1)
        count, head = self.begin_rounds(DIGITS)
        # The rest may grow by one digit more than a word has; then it is not less than b, whatever b is.
        over = self.op(">>", rest, last)
        doubled = self.op("+", rest, rest)
        longer = self.op("|", doubled, self.op(">>", digits, last))
        fits = self.op("|", over, self.op("<=", b, longer))
        self.write(("select", rest, fits, self.op("-", longer, b), longer))
        shifted = self.op("+", digits, digits)
        self.write(("op", "|", digits, shifted, fits))
        self.end_rounds(count, head)
        # By 0 each digit fits and takes nothing away: the rest is right, the digits are all 1.
        quotient = self.select(b, digits, self.number(0))
        return (quotient, rest)
