"""The meaning of typed programs (part 3)."""

from sameclock.flat import flat_rows
from sameclock.ir import apply

MAIN = -1
GOING = ("jump", "skip", "loop", "round", "call", "back")


def meaning(typed, inputs, contents):
    """Returns the outs, the result and the arrays at the end of a typed program."""
    return Run(typed, contents).done(MAIN, inputs)


def called(typed, p, values, contents):
    """Returns the same for a call of the procedure p alone."""
    return Run(typed, contents).done(p, values)


class Run:
    """What a run holds: the arrays, the outs, the stack of values, and the calls that go on."""

    def __init__(self, typed, contents):
        self.procedures = typed[1]
        self.main = typed[2]
        self.cells = [list(row) for row in contents]
        self.outs = []
        self.stack = []
        self.flats = {}
        self.waiting = []
        self.rows = []
        self.at = 0
        self.variables = []
        self.ended = False

    def done(self, p, values):
        """The triple of a call of the procedure p, or of main."""
        self.begin(p, list(values))
        while not self.ended:
            self.straight()
        return (tuple(self.outs), self.stack.pop(), tuple([tuple(row) for row in self.cells]))

    def procedure(self, p):
        """The typed procedure with the index p, or main."""
        return self.main if p == MAIN else self.procedures[p]

    def begin(self, p, values):
        """Goes to the first row of a procedure, with these values for its params."""
        procedure = self.procedure(p)
        if p not in self.flats:
            self.flats[p] = flat_rows(procedure)
        self.rows = self.flats[p]
        self.at = 0
        self.variables = values + [0] * (len(procedure[2]) - len(values))

    def call(self, p):
        """Takes the values of a call from the stack, and begins it."""
        first = len(self.stack) - len(self.procedure(p)[1])
        values = self.stack[first:]
        del self.stack[first:]
        self.waiting.append((self.rows, self.at, self.variables))
        self.begin(p, values)

    def back(self):
        """Goes on behind the call that is ended."""
        if self.waiting:
            self.rows, self.at, self.variables = self.waiting.pop()
        else:
            self.ended = True

    def straight(self):
        """Does rows up to the first one that tells which one comes next, and that one."""
        rows = self.rows
        at = self.at
        stack = self.stack
        variables = self.variables
        while True:
            word, first, second = rows[at]
            at += 1
            if word == "var":
                stack.append(variables[first])
            elif word == "num":
                stack.append(first)
            elif word == "op":
                b = stack.pop()
                stack.append(apply(first, stack.pop(), b))
            elif word == "set":
                variables[first] = stack.pop()
            elif word in GOING:
                self.at = at
                self.go(word, first, second)
                return
            else:
                self.do(word, first)

    def do(self, word, array):
        """Does a row without a variable: a not, a choose, an out, a read or a store."""
        stack = self.stack
        last = stack.pop()
        if word == "not":
            stack.append(1 if last == 0 else 0)
        elif word == "choose":
            first = stack.pop()
            stack.append(first if stack.pop() != 0 else last)
        elif word == "out":
            self.outs.append(last)
        elif word == "read":
            row = self.cells[array]
            stack.append(row[last] if last < len(row) else 0)
        else:
            at = stack.pop()
            if at < len(self.cells[array]):
                self.cells[array][at] = last

    def go(self, word, first, second):
        """Does a row that tells which one comes next."""
        if word == "jump":
            self.at = second
        elif word == "skip":
            if self.stack.pop() == 0:
                self.at = second
        elif word == "loop":
            bound = self.stack.pop()
            self.stack.append(min(bound, first))
            self.stack.append(0)
        elif word == "round":
            self.next_round(first, second)
        elif word == "call":
            self.call(first)
        else:
            self.back()

    def next_round(self, variable, behind):
        """Begins the next round of a loop, or goes on behind it."""
        count = self.stack.pop()
        if count < self.stack[-1]:
            self.variables[variable] = count
            self.stack.append(count + 1)
        else:
            self.stack.pop()
            self.at = behind
