"""Typed procedures as rows that are done one after the other, with a stack of values.

A call within a call within expressions needs no depth of Python's own calls this way.
"""

from sameclock.parts import parts_of


def flat_rows(procedure):
    """Returns the list of the rows of a typed procedure; each row is a triple of its word and two numbers or signs.

    The rows: num n, var i, read a, call p, op sign, not, choose take their values from the stack and put
    one there; set i, store a, out take theirs; skip t goes on at the row t if the value it takes is 0, jump t
    goes there always; loop n makes a bound and a count of a value; round i t takes both away and goes on at
    the row t behind the last round; back ends the call, and leaves the result on the stack.
    """
    flat = Flat()
    flat.statements(procedure[3])
    flat.expr(procedure[4])
    flat.write("back", 0, 0)
    return flat.rows


class Flat:
    """Rows that are being written."""

    def __init__(self):
        self.rows = []

    def write(self, word, first, second):
        """Writes a row; gives its index."""
        self.rows.append((word, first, second))
        return len(self.rows) - 1

    def lead(self, at):
        """Lets the row with this index go on behind all that is written so far, by its last number."""
        word, first, _ = self.rows[at]
        self.rows[at] = (word, first, len(self.rows))

    def expr(self, expr):
        """Writes what puts the value of a typed expression on the stack."""
        for part in parts_of(expr):
            self.expr(part)
        kind = expr[0]
        if kind in ("not", "choose"):
            self.write(kind, 0, 0)
        else:
            self.write(kind, expr[1], 0)

    def statements(self, statements):
        """Writes typed statements."""
        for statement in statements:
            self.statement(statement)

    def statement(self, statement):
        """Writes a typed statement."""
        kind = statement[0]
        if kind == "set":
            self.expr(statement[2])
            self.write("set", statement[1], 0)
        elif kind == "store":
            self.expr(statement[2])
            self.expr(statement[3])
            self.write("store", statement[1], 0)
        elif kind == "if":
            self.deciding(statement)
        elif kind == "for":
            self.looping(statement)
        else:
            self.expr(statement[1])
            self.write("out", 0, 0)

    def deciding(self, statement):
        """Writes an if."""
        _, _, condition, then, other = statement
        self.expr(condition)
        skip = self.write("skip", 0, 0)
        self.statements(then)
        jump = self.write("jump", 0, 0)
        self.lead(skip)
        self.statements(other)
        self.lead(jump)

    def looping(self, statement):
        """Writes a for."""
        _, number, bound, most, body = statement
        self.expr(bound)
        self.write("loop", most, 0)
        head = self.write("round", number, 0)
        self.statements(body)
        self.write("jump", 0, head)
        self.lead(head)
