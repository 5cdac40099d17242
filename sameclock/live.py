"""Live registers (point 6.4)."""

from sameclock.flow import ways_ahead, ways_of
from sameclock.ir_form import parts_like, written


def live_at(program):
    """Returns, for each block and each of its rows, the ascending tuple of the registers that are live at the row."""
    first = live_first(program)
    return tuple([tuple(_live_rows(block, first)[:-1]) for block in program[2]])


def live_behind(program):
    """Returns the same for those that are live behind the row."""
    first = live_first(program)
    return tuple([tuple(_live_rows(block, first)[1:]) for block in program[2]])


def live_first(program):
    """Returns a list with, for each block, the dict of True of the registers that are live at its first row."""
    blocks = program[2]
    ahead = ways_ahead(blocks)
    first = []
    ends = []
    waiting = []
    for number, block in enumerate(blocks):
        read, changed = _read_and_written(block)
        first.append(read)
        ends.append(changed)
        waiting.extend([(number, a) for a in read])
    while waiting:
        number, a = waiting.pop()
        for other in ahead[number]:
            if a not in ends[other] and a not in first[other]:
                first[other][a] = True
                waiting.append((other, a))
    return first


def _read_and_written(block):
    """The registers that a block reads before it writes them, and those that it writes."""
    read = {}
    changed = {}
    for row in block:
        for a in parts_like(row, "read"):
            if a not in changed:
                read[a] = True
        if written(row) >= 0:
            changed[written(row)] = True
    return (read, changed)


def _live_rows(block, first):
    """The tuples of the registers that are live at each row of a block, and behind the last one."""
    held = {a: True for way in ways_of(block) for a in first[way]}
    found = [tuple(sorted(held))]
    for row in reversed(block):
        held.pop(written(row), None)
        for a in parts_like(row, "read"):
            held[a] = True
        found.append(tuple(sorted(held)))
    return list(reversed(found))
