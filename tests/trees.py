"""Random trees, which need not pass the checker."""

import random

SIGNS = ["|", "^", "&", "==", "<", "<=", "<<", ">>", "+", "-", "*", "div", "mod"]
NAMES = ["a", "b", "key", "x1", "fort", "to_"]


def random_expr(chance, depth):
    if depth == 0 or chance.random() < 0.15:
        if chance.random() < 0.5:
            return ("num", chance.choice([0, 1, 7, 4294967295]))
        return ("name", chance.choice(NAMES))
    kind = chance.randrange(8)
    if kind == 0:
        return ("not", random_expr(chance, depth - 1))
    if kind == 1:
        return ("choose",) + tuple(random_expr(chance, depth - 1) for _ in range(3))
    if kind == 2:
        return ("read", chance.choice(NAMES), random_expr(chance, depth - 1))
    if kind == 3:
        return ("call", chance.choice(NAMES), tuple(random_expr(chance, depth - 1) for _ in range(chance.randrange(4))))
    return ("op", chance.choice(SIGNS), random_expr(chance, depth - 1), random_expr(chance, depth - 1))


def random_statement(chance, depth):
    kind = chance.randrange(6 if depth > 0 else 4)
    name = chance.choice(NAMES)
    value = random_expr(chance, 3)
    if kind == 0:
        return ("declare", chance.choice(["public", "secret"]), name, value)
    if kind == 1:
        return ("assign", name, value)
    if kind == 2:
        return ("store", name, value, random_expr(chance, 3))
    if kind == 3:
        return ("out", value)
    if kind == 4:
        return ("if", value, random_statements(chance, depth - 1), random_statements(chance, depth - 1))
    return ("for", name, value, chance.randrange(2000), random_statements(chance, depth - 1))


def random_statements(chance, depth):
    return tuple(random_statement(chance, depth) for _ in range(chance.randrange(4)))


def random_params(chance):
    return tuple((chance.choice(["public", "secret"]), chance.choice(NAMES)) for _ in range(chance.randrange(4)))


def random_procedure(chance, name):
    return (name, random_params(chance), random_statements(chance, 3), random_expr(chance, 4))


def random_program(number):
    chance = random.Random(number)
    arrays = tuple((chance.choice(["public", "secret"]), chance.choice(NAMES), chance.randrange(70))
                   for _ in range(chance.randrange(4)))
    procedures = tuple(random_procedure(chance, chance.choice(NAMES)) for _ in range(chance.randrange(4)))
    return (arrays, procedures, random_procedure(chance, "main"))
