"""Known numbers (point 5.3)."""

from sameclock.flow import order_of, ways_of
from sameclock.ir import apply
from sameclock.ir_form import named_registers, written


def known_numbers(program):
    """Returns a list with, for each block, None or the dict of the numbers that are known at its beginning."""
    return known_of(program, [named_registers(program)] * len(program[2]))


def known_of(program, asked):
    """Returns the same for the registers that are asked for: a dict of True for each block.

    A register may be left out at the beginning of a block if it is not read there before it is written.
    """
    blocks = program[2]
    order = order_of(blocks)
    known = [None] * len(blocks)
    known[0] = {number: 0 for number in asked[0] if number >= program[1]}
    waiting = {0: True}
    while waiting:
        for block in order:
            if block not in waiting:
                continue
            del waiting[block]
            ends = _at_end(blocks[block], known[block])
            for way in ways_gone(blocks[block], ends):
                met = _met(known[way], ends, asked[way])
                if known[way] is None or len(met) < len(known[way]):
                    known[way] = met
                    waiting[way] = True
    return known


def _at_end(block, known):
    """The numbers that are known at the end of a block."""
    held = dict(known)
    for row in block:
        target = written(row)
        if target >= 0:
            number = number_of(row, held)
            if number is not None:
                held[target] = number
            elif target in held:
                del held[target]
    return held


def _met(known, ends, asked):
    """What is known at the beginning of a block to which one more way leads."""
    if known is None:
        return {number: ends[number] for number in asked if number in ends}
    return {number: n for number, n in known.items() if ends.get(number) == n}


def ways_gone(block, ends):
    """Returns the tuple of the ways of a block that may be gone, by what is known at its end."""
    row = block[-1]
    if row[0] == "branch" and row[1] in ends:
        return (row[2],) if ends[row[1]] != 0 else (row[3],)
    return ways_of(block)


def number_of(row, known):
    """Returns the number that a row is known to write, by those known ahead of it, or None."""
    word = row[0]
    if word == "const":
        return row[2]
    if word == "copy":
        return known.get(row[2])
    if word == "op":
        return _result(row[1], known.get(row[3]), known.get(row[4]))
    if word == "select":
        return _chosen(known.get(row[2]), known.get(row[3]), known.get(row[4]))
    return None


def _result(sign, a, b):
    if a is not None and b is not None:
        return apply(sign, a, b)
    if sign in ("&", "*") and (a == 0 or b == 0):
        return 0
    return None


def _chosen(c, a, b):
    if a is not None and a == b:
        return a
    if c is None:
        return None
    return a if c != 0 else b
