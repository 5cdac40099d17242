"""Slow and plain second versions of what is tested."""

WORD = 2 ** 32


def operate(sign, a, b):
    return {
        "+": lambda: (a + b) % WORD, "-": lambda: (a - b) % WORD, "*": lambda: (a * b) % WORD,
        "&": lambda: a & b, "|": lambda: a | b, "^": lambda: a ^ b,
        "<<": lambda: (a * 2 ** (b % 32)) % WORD, ">>": lambda: a // 2 ** (b % 32),
        "==": lambda: int(a == b), "<": lambda: int(a < b), "<=": lambda: int(a <= b),
        "div": lambda: a // b if b else 0, "mod": lambda: a % b if b else a,
    }[sign]()


class TreeRun:
    """Runs trees as part 1 gives them, by names, with Python's own calls."""

    def __init__(self, program, contents):
        self.lengths = {name: length for _, name, length in program[0]}
        self.cells = {name: list(row) for (_, name, _), row in zip(program[0], contents)}
        self.procedures = {procedure[0]: procedure for procedure in program[1]}
        self.outs = []

    def call(self, procedure, values):
        names = {name: value for (_, name), value in zip(procedure[1], values)}
        self.block(procedure[2], names)
        return self.value(procedure[3], names)

    def block(self, statements, names):
        for statement in statements:
            self.statement(statement, names)

    def inner(self, statements, names):
        """A block, behind which names that it declares do not count."""
        copy = dict(names)
        self.block(statements, copy)
        for name in names:
            names[name] = copy[name]

    def statement(self, statement, names):
        kind, *parts = statement
        if kind == "declare":
            names[parts[1]] = self.value(parts[2], names)
        elif kind == "assign":
            names[parts[0]] = self.value(parts[1], names)
        elif kind == "store":
            at = self.value(parts[1], names)
            value = self.value(parts[2], names)
            if at < self.lengths[parts[0]]:
                self.cells[parts[0]][at] = value
        elif kind == "if":
            self.inner(parts[1] if self.value(parts[0], names) else parts[2], names)
        elif kind == "for":
            bound = self.value(parts[1], names)
            for count in range(min(bound, parts[2])):
                inside = dict(names)
                inside[parts[0]] = count
                self.block(parts[3], inside)
                for name in names:
                    names[name] = inside[name]
        else:
            self.outs.append(self.value(parts[0], names))

    def value(self, expr, names):
        kind, *parts = expr
        if kind == "num":
            return parts[0]
        if kind == "name":
            return names[parts[0]]
        if kind == "read":
            at = self.value(parts[1], names)
            return self.cells[parts[0]][at] if at < self.lengths[parts[0]] else 0
        if kind == "call":
            return self.call(self.procedures[parts[0]], [self.value(part, names) for part in parts[1]])
        if kind == "op":
            a = self.value(parts[1], names)
            return operate(parts[0], a, self.value(parts[2], names))
        if kind == "not":
            return int(self.value(parts[0], names) == 0)
        values = [self.value(part, names) for part in parts]
        return values[1] if values[0] else values[2]


def tree_meaning(program, inputs, contents):
    run = TreeRun(program, contents)
    result = run.call(program[2], inputs)
    return (tuple(run.outs), result, tuple(tuple(row) for row in run.cells.values()))


def traced(program, inputs, contents):
    """Runs a program in the intermediate form; gives what it gives, the blocks, the rows, and the cells it touches."""
    arrays, _, blocks = program
    held = dict(enumerate(inputs))
    cells = []
    for (_, length, _), row in zip(arrays, contents):
        size = 1
        while size < length:
            size = size * 2
        cells.append(list(row) + [0] * (size - length))
    outs = []
    trail = []
    block = 0
    steps = 0
    while True:
        trail.append(("block", block))
        for row in blocks[block]:
            steps += 1
            kind, *parts = row
            if kind == "const":
                held[parts[0]] = parts[1]
            elif kind == "copy":
                held[parts[0]] = held.get(parts[1], 0)
            elif kind == "op":
                if parts[0] in ("div", "mod"):
                    trail.append((parts[0], held.get(parts[2], 0), held.get(parts[3], 0)))
                held[parts[1]] = operate(parts[0], held.get(parts[2], 0), held.get(parts[3], 0))
            elif kind == "select":
                held[parts[0]] = held.get(parts[2] if held.get(parts[1], 0) else parts[3], 0)
            elif kind == "load":
                at = held.get(parts[2], 0) % len(cells[parts[1]])
                trail.append(("load", parts[1], at))
                held[parts[0]] = cells[parts[1]][at]
            elif kind == "store":
                at = held.get(parts[1], 0) % len(cells[parts[0]])
                trail.append(("store", parts[0], at))
                cells[parts[0]][at] = held.get(parts[2], 0)
                assert all(word == 0 for word in cells[parts[0]][arrays[parts[0]][1]:]), "behind the length"
            elif kind == "out":
                trail.append(("out", held.get(parts[0], 0)))
                outs.append(held.get(parts[0], 0))
            elif kind == "jump":
                block = parts[0]
            elif kind == "branch":
                block = parts[1] if held.get(parts[0], 0) else parts[2]
            else:
                ends = tuple(tuple(row[:length]) for (_, length, _), row in zip(arrays, cells))
                return ((tuple(outs), held.get(parts[0], 0), ends), trail, steps)


def registers(row):
    """The register that a row writes, or None, and those that it reads."""
    kind, *parts = row
    return {
        "const": lambda: (parts[0], []), "copy": lambda: (parts[0], parts[1:]), "op": lambda: (parts[1], parts[2:]),
        "select": lambda: (parts[0], parts[1:]), "load": lambda: (parts[0], parts[2:]), "store": lambda: (None, parts[1:]),
        "out": lambda: (None, parts), "jump": lambda: (None, []), "branch": lambda: (None, parts[:1]),
        "stop": lambda: (None, parts),
    }[kind]()


def public_by_trying(program, params):
    """The public registers, by taking away what does not hold as often as needed."""
    rows = [row for block in program[2] for row in block]
    found = set(range(program[1]))
    for row in rows:
        written, read = registers(row)
        found.update(read)
        if written is not None:
            found.add(written)
    while True:
        wrong = {number for number, label in enumerate(params) if label == "secret"} & found
        for row in rows:
            written, read = registers(row)
            if written in found:
                held = all(number in found for number in read)
                if row[0] == "load" and program[0][row[2]][2] == "secret":
                    held = False
                if not held:
                    wrong.add(written)
        if not wrong:
            return tuple(sorted(found))
        found -= wrong
