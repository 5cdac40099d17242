"""Part 5 and point 6.4, word by word and slowly."""

from reference import operate, registers


def all_registers(program):
    found = set(range(program[1]))
    for block in program[2]:
        for row in block:
            written, read = registers(row)
            found.update(read)
            if written is not None:
                found.add(written)
    return found


def block_ways(block):
    row = block[-1]
    return {"jump": row[1:], "branch": row[2:], "stop": ()}[row[0]]


def can_be_come_to(blocks):
    found = {0}
    while True:
        more = {way for block in found for way in block_ways(blocks[block])} | found
        if more == found:
            return found
        found = more


def ahead_known(row, known):
    """The number that a row writes, or None."""
    kind, *parts = row
    if kind == "const":
        return parts[1]
    if kind == "copy":
        return known.get(parts[1])
    if kind == "op":
        a, b = known.get(parts[2]), known.get(parts[3])
        if a is not None and b is not None:
            return operate(parts[0], a, b)
        if parts[0] in "&*" and 0 in (a, b):
            return 0
    if kind == "select":
        c, a, b = (known.get(part) for part in parts[1:])
        if a is not None and b is not None and a == b:
            return a
        if c is not None:
            return a if c else b
    return None


def known_ways(block, known):
    row = block[-1]
    if row[0] == "branch" and known.get(row[1]) is not None:
        return [row[2] if known[row[1]] else row[3]]
    return list(block_ways(block))


def after_rows(block, known):
    known = dict(known)
    for row in block:
        written, _ = registers(row)
        if written is not None:
            number = ahead_known(row, known)
            known.pop(written, None)
            if number is not None:
                known[written] = number
    return known


def slow_known(program):
    """All is made anew out of what was there before, until nothing changes."""
    _, params, blocks = program
    start = {number: 0 for number in all_registers(program) if number >= params}
    known = {0: start}
    while True:
        ends = {}
        for block, held in known.items():
            end = after_rows(blocks[block], held)
            for way in known_ways(blocks[block], end):
                ends.setdefault(way, []).append(end)
        ends.setdefault(0, []).append(start)
        new = {way: dict(set.intersection(*[set(end.items()) for end in found])) for way, found in ends.items()}
        if new == known:
            return [known.get(block) for block in range(len(blocks))]
        known = new


def slow_fold(program):
    arrays, params, blocks = program
    made = []
    for block, known in zip(blocks, slow_known(program)):
        if known is None:
            made.append(block)
            continue
        rows = []
        for at, row in enumerate(block):
            held = after_rows(block[:at], known)
            kind, *parts = row
            number = ahead_known(row, held)
            new = row
            if number is not None:
                new = ("const", registers(row)[0], number)
            elif kind == "select" and held.get(parts[1]) is not None:
                new = ("copy", parts[0], parts[2] if held[parts[1]] else parts[3])
            elif kind == "select" and parts[2] == parts[3]:
                new = ("copy", parts[0], parts[2])
            elif kind == "op":
                sign, d, a, b = parts
                x, y = held.get(a), held.get(b)
                if (x == 0 and sign in ["+", "|", "^"]) or (x == 1 and sign == "*"):
                    new = ("copy", d, b)
                elif (y == 0 and sign in ["+", "|", "^", "-", "<<", ">>"]) or (y == 1 and sign in ["*", "div"]):
                    new = ("copy", d, a)
            elif kind == "branch" and held.get(parts[0]) is not None:
                new = ("jump", parts[1] if held[parts[0]] else parts[2])
            rows.append(new)
        made.append(tuple(rows))
    return (arrays, params, tuple(made))


def after_copies(block, pairs):
    for row in block:
        x, _ = registers(row)
        if x is None:
            continue
        new = {(a, b) for a, b in pairs if x not in (a, b)}
        if row[0] == "copy" and row[2] != x:
            new.add((x, row[2]))
            new.update((x, b) for a, b in pairs if a == row[2] and b != x)
        pairs = new
    return pairs


def slow_pairs(program):
    """For each block None or the pairs (x, z) for which x comes from z."""
    blocks = program[2]
    found = can_be_come_to(blocks)
    all_pairs = {(a, b) for a in all_registers(program) for b in all_registers(program) if a != b}
    pairs = {block: all_pairs if block else set() for block in found}
    while True:
        ends = {block: after_copies(blocks[block], held) for block, held in pairs.items()}
        new = {0: set()}
        for block in found - {0}:
            new[block] = set.intersection(*[ends[other] for other in found if block in block_ways(blocks[other])])
        if new == pairs:
            return [pairs.get(block) for block in range(len(blocks))]
        pairs = new


def standing(pairs, x):
    roots = [b for a, b in pairs if a == x and not any(c == b for c, _ in pairs)]
    return min(roots) if roots else x


def slow_stand_for(program):
    return [None if pairs is None else {x: standing(pairs, x) for x, _ in pairs} for pairs in slow_pairs(program)]


def slow_copies(program):
    arrays, params, blocks = program
    made = []
    for block, pairs in zip(blocks, slow_pairs(program)):
        if pairs is None:
            made.append(block)
            continue
        rows = []
        for at, row in enumerate(block):
            held = after_copies(block[:at], pairs)
            s = lambda x: standing(held, x)
            kind, *parts = row
            rows.append({
                "const": lambda: row,
                "copy": lambda: row if parts[0] == parts[1] else ("copy", parts[0], s(parts[1])),
                "op": lambda: ("op", parts[0], parts[1], s(parts[2]), s(parts[3])),
                "select": lambda: ("select", parts[0], s(parts[1]), s(parts[2]), s(parts[3])),
                "load": lambda: ("load", parts[0], parts[1], s(parts[2])),
                "store": lambda: ("store", parts[0], s(parts[1]), s(parts[2])),
                "out": lambda: ("out", s(parts[0])),
                "jump": lambda: row,
                "branch": lambda: ("branch", s(parts[0]), parts[1], parts[2]),
                "stop": lambda: ("stop", s(parts[0])),
            }[kind]())
        made.append(tuple(rows))
    return (arrays, params, tuple(made))


def value_and_register(row):
    if row[0] == "op":
        return ("op", row[1], *row[3:]), row[2]
    if row[0] in ("select", "load"):
        return (row[0], *row[2:]), row[1]
    return None, registers(row)[0]


def slow_common(program):
    arrays, params, blocks = program
    writers = [registers(row)[0] for block in blocks for row in block]
    made = []
    for block in blocks:
        there = []
        rows = []
        for row in block:
            value, x = value_and_register(row)
            noted = [register for other, register in there if other == value]
            rows.append(("copy", x, noted[0]) if noted else row)
            if x is not None:
                there = [(other, register) for other, register in there
                         if register != x and x not in registers((other[0], *other[1:2], None, *other[2:])
                                                                 if other[0] == "op" else (other[0], None, *other[1:]))[1]]
            if row[0] == "store":
                there = [(other, register) for other, register in there if other[:2] != ("load", row[1])]
            if value is not None and not noted and x not in registers(row)[1] and x >= params and writers.count(x) == 1:
                there.append((value, x))
        made.append(tuple(rows))
    return (arrays, params, tuple(made))


def slow_needed(program):
    """The needed registers at the beginning of each row and behind the last one, for each block."""
    blocks = program[2]
    needed = [[set() for _ in range(len(block) + 1)] for block in blocks]
    while True:
        new = []
        for block, held in zip(blocks, needed):
            rows = []
            for at, row in enumerate(block):
                x, read = registers(row)
                behind = held[at + 1]
                found = behind - {x}
                if row[0] in ("store", "out", "branch", "stop") or x in behind:
                    found = found | set(read)
                rows.append(found)
            new.append(rows + [set().union(*[needed[way][0] for way in block_ways(block)])])
        if new == needed:
            return needed
        needed = new


def slow_needed_at(program):
    return [tuple(sorted(rows[0])) for rows in slow_needed(program)]


def slow_dead(program):
    arrays, params, blocks = program
    needed = slow_needed(program)
    return (arrays, params, tuple(
        tuple(row for at, row in enumerate(block)
              if row[0] not in ("const", "copy", "op", "select", "load") or registers(row)[0] in held[at + 1])
        for block, held in zip(blocks, needed)))


def one_jump_change(blocks):
    """The blocks behind the first change that can be done, or None."""
    for at, block in enumerate(blocks):
        if block[-1][0] == "branch" and block[-1][2] == block[-1][3]:
            return blocks[:at] + [block[:-1] + (("jump", block[-1][2]),)] + blocks[at + 1:]
    for at, block in enumerate(blocks):
        for place in {"jump": [1], "branch": [2, 3], "stop": []}[block[-1][0]]:
            way = block[-1][place]
            seen = []
            while len(blocks[way]) == 1 and blocks[way][0][0] == "jump" and way not in seen:
                seen.append(way)
                way = blocks[way][0][1]
            if seen and way not in seen:
                row = list(block[-1])
                row[place] = way
                return blocks[:at] + [block[:-1] + (tuple(row),)] + blocks[at + 1:]
    found = sorted(can_be_come_to(blocks))
    if len(found) < len(blocks):
        made = []
        for at in found:
            row = blocks[at][-1]
            first = {"jump": 1, "branch": 2, "stop": len(row)}[row[0]]
            made.append(blocks[at][:-1] + (row[:first] + tuple(found.index(way) for way in row[first:]),))
        return made
    for at, block in enumerate(blocks):
        if block[-1][0] == "jump":
            to = block[-1][1]
            ways = [way for other in blocks for way in block_ways(other)]
            if to not in (0, at) and ways.count(to) == 1:
                return blocks[:at] + [block[:-1] + blocks[to]] + blocks[at + 1:]
    return None


def slow_jumps(program):
    arrays, params, blocks = program
    blocks = list(blocks)
    while True:
        new = one_jump_change(blocks)
        if new is None:
            return (arrays, params, tuple(blocks))
        blocks = new


def slow_live(program):
    """The registers that are live at each row, and those behind it, as two tuples of tuples for each block."""
    blocks = program[2]
    live = [[set() for _ in block] for block in blocks]

    def behind(block, at):
        if at + 1 < len(blocks[block]):
            return live[block][at + 1]
        return set().union(*[live[way][0] for way in block_ways(blocks[block])])

    changed = True
    while changed:
        changed = False
        for block, rows in enumerate(blocks):
            for at, row in enumerate(rows):
                x, read = registers(row)
                new = (behind(block, at) - {x}) | set(read)
                changed = changed or new != live[block][at]
                live[block][at] = new
    at_rows = tuple(tuple(tuple(sorted(held)) for held in rows) for rows in live)
    behind_rows = tuple(tuple(tuple(sorted(behind(block, at))) for at in range(len(rows)))
                        for block, rows in enumerate(blocks))
    return at_rows, behind_rows
