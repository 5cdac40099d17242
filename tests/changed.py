"""Random programs with a few parts changed: the checker takes some, for other reasons than those of good.py."""

import random

from good import good_program

SIGNS = ["+", "-", "<<", "<", "div", "mod"]


def places(tree, way=()):
    """The ways to the labels, names and signs in a tree."""
    if isinstance(tree, tuple):
        found = []
        for at, part in enumerate(tree):
            if isinstance(part, str):
                if at > 0 or part in ("public", "secret"):
                    found.append(way + (at,))
            else:
                found.extend(places(part, way + (at,)))
        return found
    return []


def at(tree, way):
    for step in way:
        tree = tree[step]
    return tree


def put(tree, way, part):
    if not way:
        return part
    return tree[:way[0]] + (put(tree[way[0]], way[1:], part),) + tree[way[0] + 1:]


def changed_program(number):
    chance = random.Random(number)
    tree = good_program(chance.randrange(10 ** 9))
    ways = places(tree)
    labels = [way for way in ways if at(tree, way) in ("public", "secret")]
    names = [at(tree, way) for way in ways if at(tree, way) not in ("public", "secret")]
    for _ in range(chance.randrange(1, 4) if ways else 0):
        way = chance.choice(labels if labels and chance.random() < 0.6 else ways)
        part = at(tree, way)
        if part in ("public", "secret"):
            part = "secret" if part == "public" else "public"
        elif part[0].isalpha() and part not in ("div", "mod", "main"):
            part = chance.choice([name for name in names if name[0].isalpha() and name not in ("div", "mod", "main")])
        elif part != "main":
            part = chance.choice(SIGNS)
        tree = put(tree, way, part)
    return tree
