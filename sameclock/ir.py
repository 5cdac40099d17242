"""The intermediate form: its signs, its form, and what it does (part 4, points 4.1 to 4.4)."""

from sameclock.forms import is_label, is_number
from sameclock.ir_form import ENDS, FORMS, register_count
from sameclock.limits import GREATEST_REGISTER, GREATEST_WORD, MOST_LENGTH

SIGNS = ("+", "-", "*", "&", "|", "^", "<<", ">>", "==", "<", "<=", "div", "mod")
SHIFTS = 31


def _plus(a, b):
    return (a + b) & GREATEST_WORD


def _minus(a, b):
    return (a - b) & GREATEST_WORD


def _times(a, b):
    return (a * b) & GREATEST_WORD


def _both(a, b):
    return a & b


def _either(a, b):
    return a | b


def _apart(a, b):
    return a ^ b


def _left(a, b):
    return (a << (b & SHIFTS)) & GREATEST_WORD


def _right(a, b):
    return a >> (b & SHIFTS)


def _equal(a, b):
    return 1 if a == b else 0


def _less(a, b):
    return 1 if a < b else 0


def _at_most(a, b):
    return 1 if a <= b else 0


def _div(a, b):
    return 0 if b == 0 else a // b


def _mod(a, b):
    return a if b == 0 else a % b


ACTIONS = {
    "+": _plus, "-": _minus, "*": _times, "&": _both, "|": _either, "^": _apart, "<<": _left, ">>": _right,
    "==": _equal, "<": _less, "<=": _at_most, "div": _div, "mod": _mod,
}


def apply(sign, a, b):
    """Returns the word that a sign makes of two words."""
    action = ACTIONS[sign]
    return action(a, b)


def size_of(length):
    """Returns the least power of two that is at least a length."""
    size = 1
    while size < length:
        size += size
    return size


def is_ir(thing):
    """Returns True if any value is a program of the form of point 4.1, otherwise False."""
    if not isinstance(thing, tuple) or len(thing) != 3:
        return False
    arrays, params, blocks = thing
    if not isinstance(arrays, tuple) or not isinstance(blocks, tuple) or len(blocks) == 0:
        return False
    if not is_number(params, 0, GREATEST_REGISTER + 1):
        return False
    for array in arrays:
        if not _is_array(array):
            return False
    for block in blocks:
        if not _is_block(block, len(arrays), len(blocks)):
            return False
    return True


def _is_array(thing):
    if not isinstance(thing, tuple) or len(thing) != 3:
        return False
    name, length, label = thing
    return isinstance(name, str) and is_number(length, 1, MOST_LENGTH) and is_label(label)


def _is_block(thing, arrays, blocks):
    if not isinstance(thing, tuple) or len(thing) == 0:
        return False
    for row in thing:
        if not _is_row(row, arrays, blocks):
            return False
    for row in thing[:-1]:
        if row[0] in ENDS:
            return False
    return thing[-1][0] in ENDS


def _is_row(thing, arrays, blocks):
    if not isinstance(thing, tuple) or len(thing) == 0:
        return False
    word = thing[0]
    if not isinstance(word, str) or word not in FORMS:
        return False
    form = FORMS[word]
    if len(thing) != len(form) + 1:
        return False
    for part, kind in zip(thing[1:], form):
        if not _is_part(part, kind, arrays, blocks):
            return False
    return True


def _is_part(thing, kind, arrays, blocks):
    if kind == "sign":
        return isinstance(thing, str) and thing in SIGNS
    if kind == "word":
        return is_number(thing, 0, GREATEST_WORD)
    if kind == "array":
        return is_number(thing, 0, arrays - 1)
    if kind == "block":
        return is_number(thing, 0, blocks - 1)
    return is_number(thing, 0, GREATEST_REGISTER)


def run_ir(program, inputs, contents, steps):
    """Returns the outs, the result and the arrays of a run, or None if the first steps reach no stop."""
    run = IrRun(program, inputs, contents)
    blocks = program[2]
    rows = blocks[0]
    left = steps
    # A stop is the last row of its block, so a block either fits whole or the run ends without one.
    while len(rows) <= left:
        left -= len(rows)
        run.do_rows(rows[:-1])
        last = rows[-1]
        if last[0] == "stop":
            return (tuple(run.outs), run.registers[last[1]], run.contents())
        rows = blocks[run.way(last)]
    return None


class IrRun:
    """The registers and cells of a run, and what it put out."""

    def __init__(self, program, inputs, contents):
        self.arrays = program[0]
        self.registers = [0] * register_count(program)
        self.registers[:len(inputs)] = list(inputs)
        self.cells = []
        self.masks = []
        for array, row in zip(self.arrays, contents):
            size = size_of(array[1])
            self.cells.append(list(row) + [0] * (size - array[1]))
            self.masks.append(size - 1)
        self.outs = []

    def contents(self):
        """The tuple of the arrays' cells, without those behind the lengths."""
        return tuple([tuple(row[:array[1]]) for array, row in zip(self.arrays, self.cells)])

    def way(self, row):
        """The block that comes next behind a jump or branch."""
        if row[0] == "jump":
            return row[1]
        return row[2] if self.registers[row[1]] != 0 else row[3]

    def do_rows(self, rows):
        """Does rows of which none is a jump, branch or stop."""
        held = self.registers
        for row in rows:
            word = row[0]
            if word == "op":
                action = ACTIONS[row[1]]
                held[row[2]] = action(held[row[3]], held[row[4]])
            elif word == "const":
                held[row[1]] = row[2]
            elif word == "copy":
                held[row[1]] = held[row[2]]
            elif word == "select":
                held[row[1]] = held[row[3]] if held[row[2]] != 0 else held[row[4]]
            elif word == "load":
                held[row[1]] = self.cells[row[2]][held[row[3]] & self.masks[row[2]]]
            elif word == "store":
                self.cells[row[1]][held[row[2]] & self.masks[row[1]]] = held[row[3]]
            else:
                self.outs.append(held[row[1]])
