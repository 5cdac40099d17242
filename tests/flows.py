"""Random programs in the intermediate form."""

import random

from sameclock.ir import SIGNS

NUMBERS = [0, 0, 0, 1, 1, 2, 3, 31, 32, 4294967295]
ARRAYS = (("pub", 3, "public"), ("sec", 4, "secret"), ("one", 1, "public"))


def random_row(chance, count):
    a, b, c, d = (chance.randrange(count) for _ in range(4))
    kind = chance.randrange(12)
    if kind < 2:
        return ("const", d, chance.choice(NUMBERS))
    if kind < 5:
        return ("copy", d, a)
    if kind < 8:
        return ("op", chance.choice(SIGNS), d, a, b)
    if kind == 8:
        return ("select", d, a, b, chance.choice([b, c]))
    if kind == 9:
        return ("load", d, chance.randrange(3), a)
    if kind == 10:
        return ("store", chance.randrange(3), a, b)
    return ("out", a)


def random_end(chance, count, blocks, ahead):
    """A last row; ahead is how likely a way leads to a block with a greater number."""
    def way(number):
        if chance.random() < ahead and number + 1 < blocks:
            return chance.randrange(number + 1, blocks)
        return chance.randrange(blocks)
    def made(number):
        kind = chance.randrange(7)
        if kind < 3:
            return ("jump", way(number))
        if kind < 6:
            return ("branch", chance.randrange(count), way(number), way(number))
        return ("stop", chance.randrange(count))
    return made


def random_ir(number, most_rows=6, most_blocks=8):
    """A program with few registers, so that much is known and much is written again."""
    chance = random.Random(number)
    count = chance.randrange(2, 8)
    blocks = chance.randrange(1, most_blocks + 1)
    end = random_end(chance, count, blocks, chance.choice([0.3, 0.7, 1.0]))
    made = tuple(tuple(random_row(chance, count) for _ in range(chance.randrange(most_rows + 1))) + (end(at),)
                 for at in range(blocks))
    return (ARRAYS, chance.randrange(min(count, 3) + 1), made)


def random_jumps(number):
    """A program of many blocks with few rows."""
    chance = random.Random(number)
    blocks = chance.randrange(1, 11)
    rows = chance.choice([0.0, 0.2, 0.6])
    made = []
    for _ in range(blocks):
        kind = chance.randrange(10)
        ways = [chance.randrange(blocks) for _ in range(2)]
        if kind < 5:
            end = ("jump", ways[0])
        elif kind < 9:
            end = ("branch", chance.randrange(3), ways[0], ways[chance.randrange(2)])
        else:
            end = ("stop", 0)
        made.append((("out", len(made)),) * (chance.random() < rows) + (end,))
    return ((), 3, tuple(made))


def random_labels(program, number):
    chance = random.Random(number)
    return tuple(chance.choice(["public", "secret"]) for _ in range(program[1]))


def random_state(program, number):
    """Inputs and contents for a program."""
    chance = random.Random(number)
    word = lambda: chance.choice([0, 1, 2, 5, chance.randrange(2 ** 32)])
    return (tuple(word() for _ in range(program[1])), tuple(tuple(word() for _ in range(length)) for _, length, _ in program[0]))


def random_copies(number):
    """A program of copies, whose ways part and come together again, so that registers come from several."""
    chance = random.Random(number)
    count = chance.randrange(4, 8)

    def rows(many):
        made = []
        for _ in range(many):
            a, b = chance.sample(range(count), 2)
            made.append(chance.choice([("copy", a, b)] * 6 + [("const", a, b), ("out", a)]))
        return tuple(made)

    blocks = []
    for part in range(chance.randrange(1, 4)):
        at = 4 * part
        back = chance.choice([at + 3, at + 3, at, 0])
        blocks += [rows(chance.randrange(3)) + (("branch", 0, at + 1, at + 2),), rows(chance.randrange(2, 6)) + (("jump", at + 3),),
                   rows(chance.randrange(2, 6)) + (("jump", at + 3),), rows(chance.randrange(4)) + (("branch", 1, at + 4, (back, at + 4)[back == at + 3]),)]
    return ((), 0, tuple(blocks) + (rows(2) + (("stop", 2),),))
