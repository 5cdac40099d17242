"""Parts 6 and 7, word by word and slowly, and drawn allocations and code."""

import random
import re

from sameclock.ir import SIGNS
from pass_reference import all_registers, slow_live
from reference import operate, public_by_trying, registers


def run_code(code, contents, steps):
    """Does rows one after the other; gives outs, result, the contents of the regions, and how many rows were done."""
    regions, rows = code
    memory = {}
    for (base, size, _), words in zip(regions, contents):
        assert len(words) == size
        memory.update({base + k: word for k, word in enumerate(words)})
    held = [0] * 16
    outs = []
    at = 0
    for done in range(1, steps + 1):
        kind, *parts = rows[at]
        at += 1
        if kind == "const":
            held[parts[0]] = parts[1]
        elif kind == "op":
            held[parts[1]] = operate(parts[0], held[parts[2]], held[parts[3]])
        elif kind == "select":
            held[parts[0]] = held[parts[2] if held[parts[1]] else parts[3]]
        elif kind == "load":
            held[parts[0]] = memory[parts[2] + (held[parts[1]] & parts[3])]
        elif kind == "store":
            memory[parts[1] + (held[parts[0]] & parts[2])] = held[parts[3]]
        elif kind == "out":
            outs.append(held[parts[0]])
        elif kind == "jump":
            at = parts[0]
        elif kind == "branch":
            if held[parts[0]]:
                at = parts[1]
        else:
            ends = tuple(tuple(memory[base + k] for k in range(size)) for base, size, _ in regions)
            return tuple(outs), held[parts[0]], ends, done
    return None


def start_of(code, program, inputs, contents):
    """What the regions hold at the beginning."""
    words = []
    for number, (_, size, _) in enumerate(code[0]):
        if number < len(contents):
            words.append(tuple(contents[number]) + (0,) * (size - len(contents[number])))
        elif number < len(contents) + program[1]:
            words.append((inputs[number - len(contents)],))
        else:
            words.append((0,) * size)
    return tuple(words)


def power_of_two(least):
    return next(2 ** k for k in range(20) if 2 ** k >= least)


def slow_regions(program, params, allocation):
    wanted = [(power_of_two(length), label) for _, length, label in program[0]]
    wanted += [(1, label) for label in params]
    for label in ("public", "secret"):
        slots = [place[1] for place in allocation if place[0] == label]
        if slots:
            wanted.append((next(2 ** k for k in range(20) if 2 ** k > max(slots)), label))
    return tuple((sum(size for size, _ in wanted[:k]), *wanted[k]) for k in range(len(wanted)))


def slow_fits(program, params, allocation):
    count = max(all_registers(program), default=-1) + 1
    if type(allocation) is not tuple or len(allocation) != count:
        return False
    public = set(public_by_trying(program, params)) | (set(range(count)) - all_registers(program))
    for a, place in enumerate(allocation):
        if type(place) is not tuple or len(place) != 2 or type(place[0]) is not str or type(place[1]) is not int:
            return False
        kind, number = place
        if kind == "register" and not 0 <= number <= 11 or kind in ("public", "secret") and not 0 <= number <= 4095:
            return False
        if kind not in ("register", "public", "secret"):
            return False
        if kind == "public" and a not in public or kind == "secret" and a in public:
            return False
    live, behind = slow_live(program)
    held = [allocation[a] for a in live[0][0]]
    if len(held) != len(set(held)):
        return False
    for block, rows in zip(program[2], behind):
        for row, found in zip(block, rows):
            x, _ = registers(row)
            if x is not None and any(a != x and allocation[a] == allocation[x] for a in found):
                return False
    return True


def drawn_allocation(program, params, number, kind, slots=40):
    """An allocation that fits, of registers alone (None if that cannot be found), slots alone, or both."""
    chance = random.Random(number)
    count = max(all_registers(program), default=-1) + 1
    public = set(public_by_trying(program, params)) | (set(range(count)) - all_registers(program))
    live, behind = slow_live(program)
    against = {a: set(live[0][0]) if a in live[0][0] else set() for a in range(count)}
    for block, rows in zip(program[2], behind):
        for row, found in zip(block, rows):
            x, _ = registers(row)
            for a in found if x is not None else ():
                against[x].add(a)
                against[a].add(x)
    places = [None] * count
    for a in chance.sample(range(count), count):
        of_slots = [("public" if a in public else "secret", s) for s in range(slots)]
        choices = {"registers": [], "slots": of_slots, "mixed": of_slots[:chance.randrange(1, 4)]}[kind]
        if kind != "slots":
            choices = choices + [("register", k) for k in range(12)]
        taken = {places[other] for other in against[a] - {a}}
        free = [place for place in choices if place not in taken]
        if not free:
            if kind == "registers":
                return None
            free = [place for place in of_slots if place not in taken]
        places[a] = chance.choice(free)
    return tuple(places)


def slow_span(code, base, mask):
    """The label of the region in which a span lies, or None."""
    for first, size, label in code[0]:
        if all(first <= word < first + size for word in (base, base + mask)):
            return label
    return None


def code_registers(row):
    """The register that a row of code writes, or None, and those that it reads."""
    kind, *parts = row
    return {
        "const": lambda: (parts[0], []), "op": lambda: (parts[1], parts[2:]), "select": lambda: (parts[0], parts[1:]),
        "load": lambda: (parts[0], parts[1:2]), "store": lambda: (None, [parts[0], parts[3]]), "out": lambda: (None, parts),
        "jump": lambda: (None, []), "branch": lambda: (None, parts[:1]), "stop": lambda: (None, parts),
    }[kind]()


def slow_behind(code, r, member):
    x, read = code_registers(code[1][r])
    found = set(member)
    if x is not None:
        kind = code[1][r][0]
        if kind == "const" or kind in ("op", "select") and set(read) <= set(member):
            good = True
        else:
            good = kind == "load" and slow_span(code, code[1][r][3], code[1][r][4]) == "public"
        found = found | {x} if good else found - {x}
    return tuple(sorted(found))


def slow_ways(code, r):
    row = code[1][r]
    return {"jump": [row[-1]], "stop": [], "branch": sorted({r + 1, row[-1]})}.get(row[0], [r + 1])


def slow_paper(code):
    members = [set(range(16)) for _ in code[1]]
    while True:
        new = [set(range(16)) for _ in code[1]]
        for r, member in enumerate(members):
            for way in slow_ways(code, r):
                new[way] &= set(slow_behind(code, r, tuple(sorted(member))))
        if new == members:
            return tuple(tuple(sorted(member)) for member in members)
        members = new


def refusal(code, paper):
    """What is wrong with code that has this paper, or None."""
    for r, (row, member) in enumerate(zip(code[1], paper)):
        kind, *parts = row
        if kind == "branch" and parts[0] not in member:
            return (r, "branch")
        if kind == "out" and parts[0] not in member:
            return (r, "out")
        if kind == "load" and parts[1] not in member or kind == "store" and parts[0] not in member:
            return (r, "address")
        if kind == "op" and parts[0] in ("div", "mod") and not set(parts[2:]) <= set(member):
            return (r, "cost")
        if kind in ("load", "store"):
            label = slow_span(code, *(parts[2:] if kind == "load" else parts[1:3]))
            if label is None:
                return (r, "region")
            if kind == "store" and label == "public" and parts[3] not in member:
                return (r, "store")
    return None


def slow_count(number):
    return [number] if number < 128 else [number % 128 + 128] + slow_count(number // 128)


def slow_bytes(code):
    found = slow_count(len(code[0]))
    for _, size, label in code[0]:
        found += slow_count(size) + [["public", "secret"].index(label)]
    found += slow_count(len(code[1]))
    for kind, *p in code[1]:
        found.append(["const", "op", "select", "load", "store", "out", "jump", "branch", "stop"].index(kind))
        found += {
            "const": lambda: [p[0], *p[1].to_bytes(4, "little")], "op": lambda: [SIGNS.index(p[0]), *p[1:]], "select": lambda: p,
            "load": lambda: [p[0], p[1], *slow_count(p[2]), bin(p[3]).count("1")],
            "store": lambda: [p[0], *slow_count(p[1]), bin(p[2]).count("1"), p[3]],
            "out": lambda: p, "jump": lambda: slow_count(p[0]), "branch": lambda: [p[0], *slow_count(p[1])], "stop": lambda: p,
        }[kind]()
    return found


def drawn_regions(chance, most):
    regions = []
    base = 0
    for _ in range(chance.randrange(most + 1)):
        size = chance.choice([1, 1, 2, 3, 4, 5, 8, 16, 127, 128, 4096])
        regions.append((base, size, chance.choice(["public", "secret"])))
        base += size
    return tuple(regions)


def drawn_code(number, most_rows=12, most_regions=4, count=16):
    """Code with a few registers; spans are often within a region, or just beyond."""
    chance = random.Random(number)
    regions = drawn_regions(chance, most_regions)
    many = chance.randrange(1, most_rows + 1)
    rows = []
    for r in range(many):
        a, b, c, d = (chance.randrange(count) for _ in range(4))
        base = chance.choice([0, 500000, chance.randrange(500001)] + [first + chance.randrange(-1, 2) for first, _, _ in regions[1:]]
                             + [first for first, _, _ in regions] * 3)
        mask = chance.choice([0, 0, 1, 3, 7, 2 ** chance.randrange(13) - 1])
        t = chance.randrange(many)
        row = chance.choice([
            ("const", d, chance.choice([0, 1, 255, 256, 2 ** 32 - 1, chance.randrange(2 ** 32)])), ("op", chance.choice(SIGNS), d, a, b),
            ("op", chance.choice(SIGNS), d, a, a), ("select", d, a, b, c), ("load", d, a, base, mask), ("load", d, a, base, mask),
            ("store", a, base, mask, b), ("out", a), ("jump", t), ("branch", a, t), ("branch", a, min(r + 1, many - 1)), ("stop", a)])
        if r == many - 1 and row[0] not in ("jump", "stop"):
            row = chance.choice([("jump", t), ("stop", a)])
        rows.append(row)
    return (regions, tuple(rows))


NUMBER = r"(0|[1-9][0-9]{0,19})"
ROWS = {
    "const": [16, 2 ** 32], "op": ["sign", 16, 16, 16], "select": [16, 16, 16, 16], "load": [16, 16, 500001, "mask"],
    "store": [16, 500001, "mask", 16], "out": [16], "jump": [100000], "branch": [16, 100000], "stop": [16]}


def listing_row(row, index):
    """The parts of a row of code with this index, or None."""
    signs = "|".join(re.escape(sign) for sign in SIGNS)
    kind = row.split(" ")[1] if row.startswith(f"{index}: ") else ""
    if kind in ROWS:
        parts = ROWS[kind]
        form = "".join(f" ({signs})" if part == "sign" else " " + NUMBER for part in parts)
        found = re.fullmatch(kind + form, row.removeprefix(f"{index}: "), re.ASCII)
        if found is None:
            return None
        made = [kind]
        for word, part in zip(found.groups(), parts):
            made.append(word if part == "sign" else int(word))
            if part == "mask" and made[-1] not in [2 ** k - 1 for k in range(13)] or type(part) is int and made[-1] >= part:
                return None
        return tuple(made)
    return None


def slow_listing(text):
    """The code of a text, or the number of the row that is wrong."""
    rows = text.split("\n")
    regions = []
    made = []
    base = 0
    for number, row in enumerate(rows[:-1], 1):
        found = re.fullmatch(rf"region {NUMBER} (public|secret)", row, re.ASCII)
        if found is not None:
            size = int(found.group(1))
            if made or len(regions) == 1000 or base > 500000 or not 1 <= size <= 4096:
                return number
            regions.append((base, size, found.group(2)))
            base += size
            continue
        found = listing_row(row, len(made))
        if found is None or len(made) == 100000 or len(made) == 99999 and found[0] not in ("jump", "stop"):
            return number
        made.append(found)
    wrong = rows[-1] != "" or not made or made[-1][0] not in ("jump", "stop")
    if wrong or any(row[0] in ("jump", "branch") and row[-1] >= len(made) for row in made):
        return len(rows)
    return (tuple(regions), tuple(made))
