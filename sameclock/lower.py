"""Typed programs as programs in the intermediate form (point 4.5)."""

from sameclock.calls import needed_calls
from sameclock.check import label_of
from sameclock.parts import parts_of
from sameclock.rounds import Rounds


def lower(typed):
    """Returns the program in the intermediate form of a typed program."""
    arrays, procedures, main = typed
    ready = {}
    for p, masked in needed_calls(typed):
        body = Body(typed, ready, procedures[p], masked)
        body.procedure(procedures[p])
        ready[(p, masked)] = body
    body = Body(typed, ready, main, False)
    body.procedure(main)
    body.write(("stop", body.result))
    blocks = tuple([tuple(rows) for rows in body.blocks])
    return (tuple([(name, length, label) for label, name, length in arrays]), len(main[1]), blocks)


class Body(Rounds):
    """The fragment of a procedure, or of main: its first registers are its variables, by their numbers.

    A masked one is for calls under secrets: the register behind its variables, the mask, tells whether
    what it does counts. Inside an if with a secret condition another register is the mask.
    """

    def __init__(self, typed, ready, procedure, masked):
        super().__init__(len(procedure[2]))
        self.labels = procedure[2]
        self.typed = typed
        self.ready = ready
        self.declared = {number: True for number in range(len(procedure[1]))}
        self.result = 0
        self.mask = None
        if masked:
            self.mask = self.fresh()

    def procedure(self, procedure):
        """Writes what a procedure does, and notes the register of its result."""
        self.statements(procedure[3])
        self.result = self.expr(procedure[4])

    def is_secret(self, exprs):
        """True if one of some expressions is secret."""
        for expr in exprs:
            if label_of(self.typed, self.labels, expr) == "secret":
                return True
        return False

    def statements(self, statements):
        """Writes what statements do."""
        for statement in statements:
            self.statement(statement)

    def statement(self, statement):
        """Writes what a statement does."""
        kind = statement[0]
        if kind == "set":
            self.set_variable(statement[1], self.expr(statement[2]))
        elif kind == "store":
            self.storing(statement)
        elif kind == "if" and statement[1] == "secret":
            self.deciding_masked(statement)
        elif kind == "if":
            self.deciding(statement)
        elif kind == "for":
            self.looping(statement)
        else:
            self.write(("out", self.expr(statement[1])))

    def set_variable(self, variable, value):
        """Writes a set, which counts only where the mask says so.

        The first one in the text declares the variable. Where that does not count, nothing that reads it does either.
        """
        if self.mask is None or variable not in self.declared:
            self.write(("copy", variable, value))
        else:
            self.write(("select", variable, self.mask, value, variable))
        self.declared[variable] = True

    def storing(self, statement):
        """Writes a store."""
        _, array, index, value = statement
        length = self.typed[0][array][2]
        at = self.expr(index)
        stored = self.expr(value)
        if self.is_secret((index,)):
            if self.mask is not None:
                # No cell has the length as its number.
                at = self.select(self.mask, at, self.number(length))
            self.store_all(array, length, at, stored)
        else:
            self.store_one(array, length, at, stored)

    def store_one(self, array, length, at, stored):
        """Writes a store with a public index: one cell is written, with what it holds if the store does not count."""
        counts = self.op("<", at, self.number(length))
        if self.mask is not None:
            counts = self.op("&", counts, self.mask)
        cell = self.load(array, at)
        self.write(("store", array, at, self.select(counts, stored, cell)))

    def deciding(self, statement):
        """Writes an if with a public condition, as a branch."""
        _, _, condition, then, other = statement
        value = self.expr(condition)
        first = self.open_block()
        second = self.open_block()
        behind = self.open_block()
        self.end_block(("branch", value, first, second), first)
        self.statements(then)
        self.end_block(("jump", behind), second)
        self.statements(other)
        self.end_block(("jump", behind), behind)

    def deciding_masked(self, statement):
        """Writes an if with a secret condition: both bodies are done, each with a mask."""
        _, _, condition, then, other = statement
        value = self.expr(condition)
        outside = self.mask
        counts = self.number(1) if outside is None else outside
        zero = self.number(0)
        # Both masks are made first: the bodies may set the variable that the condition is.
        first = self.select(value, counts, zero)
        second = self.select(value, zero, counts)
        self.mask = first
        self.statements(then)
        self.mask = second
        self.statements(other)
        self.mask = outside

    def looping(self, statement):
        """Writes a for; its name is set under a mask too, as nothing reads it behind the loop."""
        _, variable, bound, most, body = statement
        value = self.expr(bound)
        greatest = self.number(most)
        limit = self.select(self.op("<", value, greatest), value, greatest)
        count = self.number(0)
        head = self.open_block()
        inside = self.open_block()
        behind = self.open_block()
        self.end_block(("jump", head), head)
        self.end_block(("branch", self.op("<", count, limit), inside, behind), inside)
        self.write(("copy", variable, count))
        self.statements(body)
        self.write(("op", "+", count, count, self.number(1)))
        self.end_block(("jump", head), behind)

    def expr(self, expr):
        """Writes what gives the value of an expression; gives the register that holds it."""
        kind = expr[0]
        if kind == "num":
            return self.number(expr[1])
        if kind == "var":
            return expr[1]
        values = [self.expr(part) for part in parts_of(expr)]
        if kind == "read":
            return self.reading(expr, values[0])
        if kind == "call":
            return self.call(expr[1], values)
        if kind == "op":
            return self.operation(expr, values[0], values[1])
        if kind == "not":
            return self.op("==", values[0], self.number(0))
        return self.select(values[0], values[1], values[2])

    def operation(self, expr, a, b):
        """Writes an operation; a division with secrets takes as long for all of them."""
        sign = expr[1]
        if sign in ("div", "mod") and self.is_secret((expr,)):
            quotient, rest = self.divide(a, b)
            return quotient if sign == "div" else rest
        return self.op(sign, a, b)

    def reading(self, expr, at):
        """Writes a read."""
        _, array, index = expr
        length = self.typed[0][array][2]
        if self.is_secret((index,)):
            return self.read_all(array, length, at)
        counts = self.op("<", at, self.number(length))
        return self.select(counts, self.load(array, at), self.number(0))

    def call(self, p, values):
        """Writes what a procedure does in the place of its call."""
        masked = self.mask is not None
        body = self.ready[(p, masked)]
        base = self.hold(body)
        for number, value in enumerate(values):
            self.write(("copy", base + number, value))
        for number in range(len(values), len(body.labels)):
            self.write(("const", base + number, 0))
        if masked:
            self.write(("copy", base + len(body.labels), self.mask))
        self.place(body, base)
        return base + body.result
