"""Random programs, as trees, that the checker takes."""

import random

SIGNS = ["|", "^", "&", "==", "<", "<=", "<<", ">>", "+", "-", "*", "div", "mod"]
NUMBERS = [0, 1, 2, 3, 5, 31, 32, 33, 255, 65536, 2147483648, 4294967294, 4294967295]
NAMES = ["a", "b", "c", "d", "e", "f", "g", "h", "i", "j", "k", "l", "m", "n"]


class Maker:
    """Makes one procedure; labels and names are minded, so that there is no error."""

    def __init__(self, chance, arrays, procedures, quiet):
        self.chance = chance
        self.arrays = arrays
        self.procedures = procedures
        self.quiet = quiet
        self.names = {}
        self.loops = set()

    def pick(self, things):
        things = list(things)
        return self.chance.choice(things) if things else None

    def fresh_name(self):
        return self.pick(name for name in NAMES if name not in self.names)

    def expr(self, want, depth, under):
        """An expression that is public if that is wanted, and is under secrets or not."""
        kind = self.chance.randrange(9) if depth > 0 else self.chance.randrange(3)
        if kind in (1, 2, 3):
            name = self.pick(name for name, label in self.names.items() if want == "secret" or label == "public")
            if name is not None:
                return ("name", name)
        if kind == 4:
            array = self.pick(one for one in self.arrays if want == "secret" or one[0] == "public")
            if array is not None:
                return ("read", array[1], self.index(want, array[2], depth - 1, under))
        if kind == 5:
            return ("choose",) + tuple(self.expr(want, depth - 1, under) for _ in range(3))
        if kind == 6 and self.chance.random() < 0.4:
            return ("not", self.expr(want, depth - 1, under))
        if kind == 7:
            other = self.pick(one for one in self.procedures if (want == "secret" or one["result"] == "public")
                              and (one["quiet"] or not (under or self.quiet)))
            if other is not None:
                labels = [label if want == "secret" else "public" for label in other["labels"]]
                return ("call", other["name"], tuple(self.expr(label, depth - 1, under) for label in labels))
        if kind in (6, 8):
            sign = self.chance.choice(SIGNS if self.chance.random() < 0.7 else SIGNS[:11])
            return ("op", sign, self.expr(want, depth - 1, under), self.expr(want, depth - 1, under))
        return ("num", self.chance.choice(NUMBERS))

    def index(self, want, length, depth, under):
        if self.chance.random() < 0.4:
            return ("num", self.chance.randrange(length + 3))
        inner = self.expr(want, depth, under)
        return ("op", "mod", inner, ("num", length)) if self.chance.random() < 0.3 else inner

    def statements(self, depth, under):
        outside = dict(self.names)
        found = tuple(self.statement(depth, under) for _ in range(self.chance.randrange(1, 4)))
        self.names = outside
        return found

    def statement(self, depth, under):
        kind = self.chance.randrange(8 if depth > 0 else 5)
        closed = under or self.quiet
        if kind == 0:
            name = self.fresh_name()
            if name is not None:
                label = "secret" if closed else self.chance.choice(["public", "secret"])
                value = self.expr(label, 3, under)
                self.names[name] = label
                return ("declare", label, name, value)
        if kind in (1, 2):
            name = self.pick(name for name, label in self.names.items()
                             if name not in self.loops and not (closed and label == "public"))
            if name is not None:
                return ("assign", name, self.expr(self.names[name], 3, under))
        if kind == 3:
            array = self.pick(one for one in self.arrays if not (closed and one[0] == "public"))
            if array is not None:
                return ("store", array[1], self.index(array[0], array[2], 2, under), self.expr(array[0], 3, under))
        if kind == 4 and not closed:
            return ("out", self.expr("public", 3, under))
        if kind == 7 and self.fresh_name() is not None:
            return self.loop(depth, under)
        label = self.chance.choice(["public", "secret"])
        inside = under or label == "secret"
        condition = self.expr(label, 2, under)
        if depth > 0:
            other = self.statements(depth - 1, inside) if self.chance.random() < 0.6 else ()
            return ("if", condition, self.statements(depth - 1, inside), other)
        return ("if", condition, (), ())

    def loop(self, depth, under):
        bound = self.expr("public", 2, under)
        name = self.fresh_name()
        if name is None:
            return ("if", bound, (), ())
        self.names[name] = "public"
        self.loops.add(name)
        body = self.statements(depth - 1, under)
        del self.names[name]
        self.loops.discard(name)
        return ("for", name, bound, self.chance.randrange(5), body)

    def procedure(self, name, count):
        params = tuple((self.chance.choice(["public", "secret"]), other) for other in self.chance.sample(NAMES, count))
        self.names = {other: label for label, other in params}
        outside = dict(self.names)
        found = tuple(self.statement(2, False) for _ in range(self.chance.randrange(1, 6)))
        want = self.chance.choice(["public", "secret"])
        result = self.expr(want, 3, False)
        self.names = outside
        return ((name, params, found, result), {
            "name": name, "labels": [label for label, _ in params], "result": want, "quiet": self.quiet})


def good_program(number):
    chance = random.Random(number)
    arrays = tuple((chance.choice(["public", "secret"]), name, chance.choice([1, 2, 3, 4, 5, 8, 11]))
                   for name in chance.sample(["a", "b", "key", "box"], chance.randrange(4)))
    procedures = []
    known = []
    for name in ["f", "g", "h"][:chance.randrange(4)]:
        tree, told = Maker(chance, arrays, known, chance.random() < 0.5).procedure(name, chance.randrange(4))
        procedures.append(tree)
        known.append(told)
    main, _ = Maker(chance, arrays, known, False).procedure("main", chance.randrange(5))
    return (arrays, tuple(procedures), main)


def random_words(chance, count):
    return tuple(chance.choice([chance.choice(NUMBERS), chance.randrange(12), chance.randrange(2 ** 32)])
                 for _ in range(count))


def random_inputs(program, number):
    """Inputs and contents for a program."""
    chance = random.Random(number)
    return (random_words(chance, len(program[2][1])), tuple(random_words(chance, length) for _, _, length in program[0]))


def other_secrets(program, inputs, contents, number):
    """Inputs and contents that have other secrets."""
    other_inputs, other_contents = random_inputs(program, number + 1000003)
    return (tuple(b if label == "secret" else a for (label, _), a, b in zip(program[2][1], inputs, other_inputs)),
            tuple(b if label == "secret" else a for (label, _, _), a, b in zip(program[0], contents, other_contents)))
