"""Which registers of the intermediate form are public (point 4.6)."""

from sameclock.ir_form import named_registers, parts_like


def public_registers(program, params):
    """Returns the ascending tuple of the public registers; params are the labels of the parameters."""
    secret = secret_registers(program, params)
    return tuple([number for number in sorted(named_registers(program)) if number not in secret])


def keeps_secrets(program, params):
    """Returns True if a program keeps its secrets, otherwise False."""
    secret = secret_registers(program, params)
    for block in program[2]:
        for row in block:
            for number in _watched(row, program[0]):
                if number in secret:
                    return False
    return True


def _watched(row, arrays):
    """The registers of a row that have to be public."""
    word = row[0]
    if word in ("branch", "out"):
        return (row[1],)
    if word == "load":
        return (row[3],)
    if word == "store":
        return (row[2], row[3]) if arrays[row[1]][2] == "public" else (row[2],)
    if word == "op" and row[1] in ("div", "mod"):
        return (row[3], row[4])
    return ()


def secret_registers(program, params):
    """Returns the dict of True of the registers that are not public.

    The greatest set of public registers leaves the least set of others: those that get
    a secret from outside, and those that are made of them.
    """
    waiting = [number for number, label in enumerate(params) if label == "secret"]
    makes = {}
    for block in program[2]:
        for row in block:
            for number in parts_like(row, "write"):
                if row[0] == "load" and program[0][row[2]][2] == "secret":
                    waiting.append(number)
                for part in parts_like(row, "read"):
                    makes.setdefault(part, []).append(number)
    secret = {}
    while waiting:
        number = waiting.pop()
        if number not in secret:
            secret[number] = True
            waiting.extend(makes.get(number, []))
    return secret
