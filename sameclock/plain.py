"""What machine code does, row after row (point 6.2), without what a machine does besides."""

from sameclock.code_form import REGISTERS, writes
from sameclock.memory import address_of, contents_of, memory_of, word_of


def plain_run(code, contents, steps):
    """Returns the outs, the result and the contents of the regions; the result is None if the steps reach no stop."""
    regions, rows = code
    memory = memory_of(contents)
    held = [0] * REGISTERS
    outs = []
    result = None
    at = 0
    for _ in range(steps):
        row = rows[at]
        word = row[0]
        at += 1
        if word == "jump":
            at = row[1]
        elif word == "branch":
            if held[row[1]] != 0:
                at = row[2]
        elif word == "load":
            held[row[1]] = memory.get(address_of(row, held), 0)
        elif word == "store":
            memory[address_of(row, held)] = held[row[4]]
        elif word == "out":
            outs.append(held[row[1]])
        elif word == "stop":
            result = held[row[1]]
            break
        else:
            held[writes(row)] = word_of(row, held)
    return (tuple(outs), result, contents_of(regions, memory))
