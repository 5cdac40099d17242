"""The form of the rows of the intermediate form (point 4.1)."""

# What stands behind the word of a row: a register that is written or read, a word, a sign, an array or a block.
FORMS = {
    "const": ("write", "word"),
    "copy": ("write", "read"),
    "op": ("sign", "write", "read", "read"),
    "select": ("write", "read", "read", "read"),
    "load": ("write", "array", "read"),
    "store": ("array", "read", "read"),
    "out": ("read",),
    "jump": ("block",),
    "branch": ("read", "block", "block"),
    "stop": ("read",),
}
ENDS = ("jump", "branch", "stop")
# Where the register stands that a row writes.
WRITTEN = {"const": 1, "copy": 1, "op": 2, "select": 1, "load": 1}


def parts_like(row, kind):
    """Returns the tuple of the parts of a row that are of this kind, in their order."""
    form = FORMS[row[0]]
    return tuple([part for part, like in zip(row[1:], form) if like == kind])


def registers_of(row):
    """Returns the tuple of the registers that a row names."""
    return parts_like(row, "write") + parts_like(row, "read")


def named_registers(program):
    """Returns the dict of True of the registers that a program has as parameters or names in its rows."""
    named = {number: True for number in range(program[1])}
    for block in program[2]:
        for row in block:
            for number in registers_of(row):
                named[number] = True
    return named


def register_count(program):
    """Returns how many registers there are up to the greatest one that a program names or has as a parameter."""
    return max(list(named_registers(program)), default=-1) + 1


def written(row):
    """Returns the register that a row writes, or -1."""
    at = WRITTEN.get(row[0], 0)
    return row[at] if at > 0 else -1
