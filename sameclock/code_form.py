"""The form of machine code (point 6.1)."""

from sameclock.forms import is_label, is_number
from sameclock.ir import SIGNS
from sameclock.limits import GREATEST_BASE, GREATEST_SIZE, GREATEST_WORD, MOST_REGIONS, MOST_ROWS

REGISTERS = 16
# What stands behind the word of a row: a register that is written or read, a word, a sign, a base, a mask or a target.
CODE_FORMS = {
    "const": ("write", "word"),
    "op": ("sign", "write", "read", "read"),
    "select": ("write", "read", "read", "read"),
    "load": ("write", "read", "base", "mask"),
    "store": ("read", "base", "mask", "read"),
    "out": ("read",),
    "jump": ("target",),
    "branch": ("read", "target"),
    "stop": ("read",),
}


def is_code(thing):
    """Returns True if any value is machine code, otherwise False."""
    if not isinstance(thing, tuple) or len(thing) != 2:
        return False
    regions, rows = thing
    if not _are_regions(regions) or not isinstance(rows, tuple) or not 1 <= len(rows) <= MOST_ROWS:
        return False
    for row in rows:
        if not is_row(row, len(rows)):
            return False
    return rows[-1][0] in ("jump", "stop")


def _are_regions(thing):
    if not isinstance(thing, tuple) or len(thing) > MOST_REGIONS:
        return False
    next_base = 0
    for region in thing:
        if not isinstance(region, tuple) or len(region) != 3:
            return False
        base, size, label = region
        if not is_number(base, next_base, next_base) or base > GREATEST_BASE:
            return False
        if not is_number(size, 1, GREATEST_SIZE) or not is_label(label):
            return False
        next_base = base + size
    return True


def is_row(thing, count):
    """Returns True if any value is a row of code that has so many rows."""
    if not isinstance(thing, tuple) or len(thing) == 0:
        return False
    word = thing[0]
    if not isinstance(word, str) or word not in CODE_FORMS or len(thing) != len(CODE_FORMS[word]) + 1:
        return False
    for part, kind in zip(thing[1:], CODE_FORMS[word]):
        if not _is_part(part, kind, count):
            return False
    return True


def _is_part(thing, kind, count):
    if kind == "sign":
        return isinstance(thing, str) and thing in SIGNS
    if kind == "word":
        return is_number(thing, 0, GREATEST_WORD)
    if kind == "base":
        return is_number(thing, 0, GREATEST_BASE)
    if kind == "mask":
        return is_mask(thing)
    if kind == "target":
        return is_number(thing, 0, count - 1)
    return is_number(thing, 0, REGISTERS - 1)


def is_mask(thing):
    """Returns True if any value is a mask: 2^k - 1 with k from 0 to 12."""
    return is_number(thing, 0, GREATEST_SIZE - 1) and thing & (thing + 1) == 0


def reads(row):
    """Returns the ascending tuple of the registers that a row reads, without duplicates."""
    found = {part: True for part, kind in zip(row[1:], CODE_FORMS[row[0]]) if kind == "read"}
    return tuple(sorted(found))


def writes(row):
    """Returns the register that a row writes, or -1."""
    for part, kind in zip(row[1:], CODE_FORMS[row[0]]):
        if kind == "write":
            return part
    return -1
