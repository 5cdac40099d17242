"""The machine once more, from the rules of part 8 alone; everything is copied, and caches and predictors go by their logs."""

import copy
import random

from cache_reference import LogCache, LogPredictor
from code_reference import code_registers, drawn_code
from reference import operate


def digits(number):
    return len(bin(number)) - 2 if number else 0


def slow_cost(sign, a, b):
    if sign == "*":
        return 3
    if sign in ("div", "mod"):
        return 4 + (digits(a) - digits(b) if digits(a) > digits(b) else 0)
    return 1


class SlowMachine:
    def __init__(self, code, contents, settings):
        self.code = code
        data, fetch, guess, self.depth, (self.miss, self.wrong), before, visits = settings
        self.data, self.fetched, self.predictor = LogCache(data), LogCache(fetch), LogPredictor(guess)
        self.visits = list(visits)
        self.fetches = 0
        self.clock = 0
        self.events = []
        self.outs = []
        self.ways = 0
        for kind, where, *taken in before:
            {"data": self.data.touch, "fetch": self.fetched.touch, "branch": self.predictor.learn}[kind](where, *taken)
        memory = {base + k: word for (base, _, _), words in zip(code[0], contents) for k, word in enumerate(words)}
        self.state = {"held": {a: 0 for a in range(16)}, "ready": {a: 0 for a in range(16)}, "memory": memory}

    def see(self, kind, *parts):
        self.events.append((kind, self.clock) + parts)

    def fetch(self, r):
        while self.visits and self.visits[0][0] <= self.fetches:
            _, kind, address = self.visits.pop(0)
            found = getattr(self.data, kind)(address)
            self.see(kind, address // self.data.line, found)
        hit = self.fetched.touch(r)
        self.see("fetch", r // self.fetched.line, hit)
        self.clock += 0 if hit else self.miss
        self.fetches += 1

    def wait(self, r, state):
        if self.code[1][r][0] != "branch":
            self.clock = max([self.clock] + [state["ready"][a] for a in code_registers(self.code[1][r])[1]])

    def touch(self, address):
        hit = self.data.touch(address)
        self.see("data", address // self.data.line, hit)
        return hit

    def do(self, r, state, wrong):
        """Does a row that is no branch and no stop; gives the next one."""
        kind, *parts = self.code[1][r]
        held = state["held"]
        new = None
        cost = 1
        if kind == "const":
            new = parts[1]
        elif kind == "op":
            new = operate(parts[0], held[parts[2]], held[parts[3]])
            cost = slow_cost(parts[0], held[parts[2]], held[parts[3]])
        elif kind == "select":
            new = held[parts[3] if held[parts[1]] == 0 else parts[2]]
        elif kind == "load":
            address = parts[2] + held[parts[1]] % (parts[3] + 1)
            new = state["memory"].get(address, 0)
            cost = 2 if self.touch(address) else 2 + self.miss
        elif kind == "store":
            address = parts[1] + held[parts[0]] % (parts[2] + 1)
            if not wrong:
                self.touch(address)
            state["memory"][address] = held[parts[3]]
        elif kind == "out" and not wrong:
            self.see("out", held[parts[0]])
            self.outs.append(held[parts[0]])
        written = code_registers(self.code[1][r])[0]
        if written is not None:
            held[written] = new
            state["ready"][written] = self.clock + cost
        self.clock += 1
        return parts[0] if kind == "jump" else r + 1

    def go_wrong(self, r, end):
        state = copy.deepcopy(self.state)
        self.clock += 1
        self.ways += 1
        for _ in range(self.depth):
            if not self.clock < end:
                break
            self.fetch(r)
            self.wait(r, state)
            if not self.clock < end:
                break
            kind, *parts = self.code[1][r]
            if kind == "stop":
                break
            if kind == "branch":
                guess = self.predictor.guess(r)
                self.see("guess", r, guess)
                self.clock += 1
                r = parts[1] if guess else r + 1
            else:
                r = self.do(r, state, True)

    def run(self, steps):
        r = 0
        for _ in range(steps):
            self.fetch(r)
            self.wait(r, self.state)
            kind, *parts = self.code[1][r]
            if kind == "stop":
                self.see("stop")
                return self.ended(self.state["held"][parts[0]])
            if kind != "branch":
                r = self.do(r, self.state, False)
                continue
            taken = self.state["held"][parts[0]] != 0
            guess = self.predictor.guess(r)
            self.see("guess", r, guess)
            ways = {True: parts[1], False: r + 1}
            if guess == taken:
                self.clock += 1
            else:
                end = max(self.clock, self.state["ready"][parts[0]]) + self.wrong
                self.go_wrong(ways[guess], end)
                self.clock = end
                self.see("back", r)
            self.predictor.learn(r, taken)
            r = ways[taken]
        return self.ended(None)

    def ended(self, result):
        ends = tuple(tuple(self.state["memory"][base + k] for k in range(size)) for base, size, _ in self.code[0])
        return (tuple(self.outs), result, ends, tuple(self.events))


def slow_run(code, contents, settings, steps):
    return SlowMachine(code, contents, settings).run(steps)


def drawn_cache(chance, small):
    sets = chance.choice([1, 2, 4] if small else [1, 2, 4, 8, 16, 32, 64])
    return (sets, chance.choice([1, 2, 4, 8]), chance.choice([1, 2, 4, 8, 16]), chance.choice(["lru", "fifo", "plru"]))


def drawn_settings(number, most_address=40, most_fetch=60):
    chance = random.Random(number)
    guess = chance.choice([("taken",), ("two", chance.choice([1, 2, 4, 8, 16, 32, 64])), ("history", chance.randrange(1, 7))])
    before = []
    for _ in range(chance.choice([0, 0, 3, 12])):
        kind = chance.choice(["data", "fetch", "branch", "branch"])
        before.append((kind, chance.randrange(most_address)) + ((chance.random() < 0.6,) if kind == "branch" else ()))
    visits = sorted((chance.randrange(most_fetch), k) for k in range(chance.choice([0, 0, 2, 10])))
    visits = tuple((n, chance.choice(["touch", "touch", "drop"]), chance.randrange(most_address)) for n, _ in visits)
    costs = (chance.choice([0, 1, 5, 20, chance.randrange(101)]), chance.choice([1, 2, 5, 20, chance.randrange(1, 101)]))
    return (drawn_cache(chance, chance.random() < 0.6), drawn_cache(chance, chance.random() < 0.6), guess, chance.choice([0, 1, 2, 3, 8, chance.randrange(65)]),
            costs, tuple(before), visits)


def drawn_words(chance, count):
    """Words, which repeat if there are many."""
    words = tuple(chance.choice([0, 1, 2, 3, chance.randrange(16), chance.randrange(2 ** 32)]) for _ in range(min(count, 37)))
    return (words * (count // 37 + 1))[:count]


def drawn_contents(code, number):
    chance = random.Random(number)
    return tuple(drawn_words(chance, size) for _, size, _ in code[0])


def other_secret_contents(code, contents, number):
    """Contents with other secrets."""
    others = drawn_contents(code, number)
    return tuple(words if label == "public" else other for (_, _, label), words, other in zip(code[0], contents, others))


def drawn_taken_code(number, most_rows=24):
    """Code that the judge takes, if it does not go wrong by what is done with secrets: registers 0 to 4 stay public, 5 to 9 need not."""
    chance = random.Random(number)
    regions = []
    base = 0
    for k in range(chance.randrange(2, 6)):
        size = chance.choice([1, 2, 4, 8, 16, 64])
        regions.append((base, size, ["public", "secret"][k] if k < 2 else chance.choice(["public", "secret"])))
        base += size
    many = chance.randrange(6, most_rows + 1)
    rows = []

    def span(label):
        base, size, _ = chance.choice([region for region in regions if label in ("any", region[2])])
        mask = chance.choice([size - 1, 0])
        return base + (chance.randrange(size) if mask == 0 else 0), mask

    for r in range(many):
        p, q, u = (chance.randrange(5) for _ in range(3))
        s, t, v = (chance.randrange(10) for _ in range(3))
        x = chance.randrange(5, 10)
        sign = chance.choice(["+", "-", "*", "&", "|", "^", "<<", ">>", "==", "<", "<="])
        rows.append(chance.choice([
            ("const", p, chance.choice([0, 1, 2, 3, 7, chance.randrange(2 ** 32)])), ("const", x, chance.randrange(9)), ("op", sign, p, q, u), ("op", sign, x, s, t),
            ("op", chance.choice(["div", "mod"]), chance.choice([p, x]), q, u), ("select", x, s, t, v), ("select", p, q, u, p), ("load", p, q, *span("public")),
            ("load", x, q, *span("secret")), ("load", x, q, *span("any")), ("store", q, *span("public"), p), ("store", q, *span("secret"), s), ("out", p),
            ("jump", chance.randrange(many)), ("branch", p, chance.randrange(many)), ("branch", p, chance.randrange(many)), ("branch", q, min(r + 1, many - 1))]))
    rows[-1] = chance.choice([("stop", s), ("stop", s), ("jump", 0)])
    return (tuple(regions), tuple(rows))


__all__ = ["SlowMachine", "drawn_code", "drawn_contents", "drawn_settings", "drawn_taken_code", "other_secret_contents", "slow_cost", "slow_run"]
