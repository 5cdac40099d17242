"""The form of settings (points 8.1, 8.4 and 8.5)."""

import itertools
import random
import unittest

from sameclock.settings import is_cache, is_predictor, is_settings

TOP = 2 ** 20
DATA = (4, 2, 4, "lru")
FETCH = (1, 1, 16, "plru")
GOOD = (DATA, FETCH, ("two", 4), 8, (10, 5), (("data", 3), ("fetch", 0), ("branch", 2, True)), ((0, "touch", 9), (0, "drop", 1), (7, "touch", TOP)))
# What is no number, no tuple of the right length and no word at any place.
OTHERS = (None, True, False, "", "lru", "1", (), (1,), (1, 2), ((),), -1, 2 ** 70, -2 ** 70)


def put(thing, way, part):
    """The thing with a part at the end of a way of indexes."""
    if not way:
        return part
    return thing[:way[0]] + (put(thing[way[0]], way[1:], part),) + thing[way[0] + 1:]


def ways_to(thing, way=()):
    """The ways to all parts of a thing."""
    found = [way]
    if type(thing) is tuple:
        for at, part in enumerate(thing):
            found += ways_to(part, way + (at,))
    return found


def at(thing, way):
    for step in way:
        thing = thing[step]
    return thing


class TestCaches(unittest.TestCase):
    def test_good_ones(self):
        for settings in itertools.product((1, 2, 4, 8, 16, 32, 64), (1, 2, 4, 8), (1, 2, 4, 8, 16), ("lru", "fifo", "plru")):
            self.assertIs(is_cache(settings), True, settings)

    def test_numbers(self):
        for number in range(-3, 200):
            self.assertIs(is_cache((number, 1, 1, "lru")), number in {1, 2, 4, 8, 16, 32, 64}, number)
            self.assertIs(is_cache((1, number, 1, "lru")), number in {1, 2, 4, 8}, number)
            self.assertIs(is_cache((1, 1, number, "lru")), number in {1, 2, 4, 8, 16}, number)

    def test_other_parts(self):
        for place in range(4):
            for other in OTHERS:
                if (place, other) != (3, "lru"):
                    self.assertIs(is_cache(put((1, 1, 1, "lru"), (place,), other)), False, (place, other))
        for policy in ("LRU", "lru ", "random", "fifo\n", "plr", "plru1", ("lru",), 0, True):
            self.assertIs(is_cache((1, 1, 1, policy)), False)

    def test_left_out_and_doubled(self):
        for thing in OTHERS + ((1, 1, 1), (1, 1, "lru"), (1, 1, 1, 1), (1, 1, 1, "lru", "lru"), (1, 1, 1, 1, "lru"), ("lru", 1, 1, 1), ((1, 1, 1, "lru"),)):
            self.assertIs(is_cache(thing), False, thing)


class TestPredictors(unittest.TestCase):
    def test_taken(self):
        self.assertIs(is_predictor(("taken",)), True)
        for thing in (("taken", 1), ("taken", "taken"), "taken", (("taken",),), ("Taken",), ("taken", None), ("two",), ("history",)):
            self.assertIs(is_predictor(thing), False, thing)

    def test_two(self):
        for number in range(-3, 200):
            self.assertIs(is_predictor(("two", number)), number in {1, 2, 4, 8, 16, 32, 64}, number)

    def test_history(self):
        for number in range(-3, 200):
            self.assertIs(is_predictor(("history", number)), 1 <= number <= 6, number)

    def test_other_parts(self):
        for other in OTHERS:
            for word in ("two", "history"):
                self.assertIs(is_predictor((word, other)), False)
                self.assertIs(is_predictor((word, 4, other)), False)
            self.assertIs(is_predictor((other, 4)), False)
            self.assertIs(is_predictor(other), False)
        for thing in (("two", 4, 4), ("one", 4), (4, "two"), (("two",), 4), ("history", 1, 1), ("twotaken", 1)):
            self.assertIs(is_predictor(thing), False, thing)


class TestSettings(unittest.TestCase):
    def good(self, thing):
        self.assertIs(is_settings(thing), True, thing)

    def bad(self, thing):
        self.assertIs(is_settings(thing), False, thing)

    def test_good_ones(self):
        self.good(GOOD)
        self.good((DATA, DATA, ("taken",), 0, (0, 1), (), ()))
        self.good((FETCH, DATA, ("history", 6), 64, (100, 100), (("branch", TOP, False),) * 3, ((TOP, "drop", TOP),) * 3))

    def test_caches_and_predictor(self):
        for place in (0, 1):
            for other in OTHERS + (("taken",), (3, 1, 1, "lru"), (True, 1, 1, "lru"), (1, 1, 1, "LRU"), (1, 1, 1)):
                self.bad(put(GOOD, (place,), other))
        for other in OTHERS + ("taken", ("two", 3), ("two", True), ("history", 0), ("history", True), ("taken", 1), DATA):
            self.bad(put(GOOD, (2,), other))

    def test_depth(self):
        for number in range(-3, 200):
            self.assertIs(is_settings(put(GOOD, (3,), number)), 0 <= number <= 64)
        for other in OTHERS:
            self.bad(put(GOOD, (3,), other))

    def test_costs(self):
        for number in range(-3, 200):
            self.assertIs(is_settings(put(GOOD, (4, 0), number)), 0 <= number <= 100)
            self.assertIs(is_settings(put(GOOD, (4, 1), number)), 1 <= number <= 100)
        for other in OTHERS:
            self.bad(put(GOOD, (4, 0), other))
            self.bad(put(GOOD, (4, 1), other))
            if other != (1, 2):
                self.bad(put(GOOD, (4,), other))
        for other in ((1,), (1, 1, 1), 5):
            self.bad(put(GOOD, (4,), other))

    def test_preparations(self):
        for number, wanted in ((0, True), (1, True), (TOP, True), (TOP + 1, False), (-1, False), (True, False), (False, False), (None, False), ("0", False), ((0,), False)):
            for preparation in (("data", number), ("fetch", number), ("branch", number, True), ("branch", number, False)):
                self.assertIs(is_settings(put(GOOD, (5,), (preparation,))), wanted, preparation)
                self.assertIs(is_settings(put(GOOD, (5,), (("data", 1), preparation))), wanted, preparation)
        for other in (0, 1, None, "True", (), (True,), 2):
            self.bad(put(GOOD, (5,), (("branch", 1, other),)))
        for other in ((), ("data",), ("data", 1, 1), ("data", 1, True), ("fetch",), ("fetch", 1, False), ("branch",), ("branch", 1), ("branch", 1, True, True), ("touch", 1),
                      (1, "data"), ("", 1), (None, 1), ("branch", True, 1), "data", "ab", 5, None, True, (("data", 1),), ("Data", 1)):
            self.bad(put(GOOD, (5,), (other,)))
            self.bad(put(GOOD, (5,), (("data", 1), other)))
        for other in OTHERS:
            if other != ():
                self.bad(put(GOOD, (5,), other))
        self.bad(put(GOOD, (5,), ("data", 1)))

    def test_visits(self):
        for number, wanted in ((0, True), (1, True), (TOP, True), (TOP + 1, False), (-1, False), (True, False), (False, False), (None, False), ("0", False), ((0,), False)):
            for kind in ("touch", "drop"):
                self.assertIs(is_settings(put(GOOD, (6,), ((number, kind, 5),))), wanted)
                self.assertIs(is_settings(put(GOOD, (6,), ((5, kind, number),))), wanted)
        for kind in ("data", "fetch", "", None, 0, True, ("touch",), "Touch", "touchdrop"):
            self.bad(put(GOOD, (6,), ((1, kind, 1),)))
        for other in ((), (1,), (1, "touch"), (1, "touch", 1, 1), ("touch", 1, 1), (1, 1, "touch"), "abc", 5, None, True, ((1, "touch", 1),)):
            self.bad(put(GOOD, (6,), (other,)))
            self.bad(put(GOOD, (6,), ((0, "touch", 1), other)))
        for other in OTHERS:
            if other != ():
                self.bad(put(GOOD, (6,), other))
        self.bad(put(GOOD, (6,), (1, "touch", 1)))

    def test_visits_do_not_descend(self):
        for numbers in itertools.product(range(3), repeat=4):
            visits = tuple((n, "touch", 9 - n) for n in numbers)
            self.assertIs(is_settings(put(GOOD, (6,), visits)), list(numbers) == sorted(numbers))

    def test_left_out_and_doubled(self):
        for other in OTHERS:
            self.bad(other)
        for place in range(7):
            self.bad(GOOD[:place] + GOOD[place + 1:])
            self.bad(GOOD[:place] + (GOOD[place],) + GOOD[place:])
        for first, second in itertools.combinations(range(1, 7), 2):
            swapped = list(GOOD)
            swapped[first], swapped[second] = GOOD[second], GOOD[first]
            # The tuple of preparations and that of visits could be empty, but these are not.
            self.bad(tuple(swapped))
        self.bad((GOOD,))

    def test_parts_left_out_anywhere(self):
        for way in ways_to(GOOD)[1:]:
            tuple_of = at(GOOD, way[:-1])
            shorter = tuple_of[:way[-1]] + tuple_of[way[-1] + 1:]
            # A list of preparations or of visits may have fewer members, other tuples may not.
            self.assertIs(is_settings(put(GOOD, way[:-1], shorter)), way[:-1] in ((5,), (6,)), way)

    def test_truths_in_the_place_of_numbers(self):
        for way in ways_to(GOOD):
            if type(at(GOOD, way)) is int:
                self.bad(put(GOOD, way, True))
                self.bad(put(GOOD, way, False))
            if type(at(GOOD, way)) is bool:
                self.bad(put(GOOD, way, 1))
                self.bad(put(GOOD, way, 0))

    def test_deep_things(self):
        thing = ()
        for _ in range(20000):
            thing = (thing,)
        for way in ways_to(GOOD):
            self.bad(put(GOOD, way, thing))
            self.bad(put(GOOD, way, (thing, thing)))
            self.bad(put(GOOD, way, (thing, 1, True)))
        self.assertIs(is_cache((thing,) * 4), False)
        self.assertIs(is_predictor(thing), False)
        self.assertIs(is_predictor((thing, thing)), False)

    def test_drawn(self):
        """Settings with parts of one put into another place, against the form said in another way."""
        good = 0
        ways = ways_to(GOOD)
        for number in range(20000):
            chance = random.Random(number)
            thing = GOOD
            for _ in range(chance.randrange(1, 3)):
                way = chance.choice(ways)
                part = chance.choice([at(GOOD, chance.choice(ways)), chance.choice([0, 1, 2, 3, 64, 65, 100, 101, TOP, TOP + 1, True]), "taken", ("taken",)])
                try:
                    thing = put(thing, way, part)
                except (TypeError, IndexError):
                    pass
            wanted = slow_settings(thing)
            self.assertIs(is_settings(thing), wanted, thing)
            good += wanted
        self.assertGreater(good, 1000)


def slow_settings(thing):
    number = lambda part, least, most: type(part) is int and least <= part <= most
    try:
        data, fetch, guess, depth, (miss, wrong), before, visits = thing
        for sets, ways, line, policy in (data, fetch):
            if [type(part) for part in (sets, ways, line)] != [int] * 3 or sets not in {1, 2, 4, 8, 16, 32, 64} or ways not in {1, 2, 4, 8} or line not in {1, 2, 4, 8, 16}:
                return False
            if type(policy) is not str or policy not in {"lru", "fifo", "plru"}:
                return False
        if guess not in [("taken",)] + [("two", n) for n in (1, 2, 4, 8, 16, 32, 64)] + [("history", h) for h in range(1, 7)] or type(guess[-1]) is bool:
            return False
        if not number(depth, 0, 64) or not number(miss, 0, 100) or not number(wrong, 1, 100) or not type(before) is type(visits) is tuple:
            return False
        for kind, where, *rest in before:
            if kind not in {"data": [0], "fetch": [0], "branch": [1]} or len(rest) != (kind == "branch") or not number(where, 0, TOP) or any(type(part) is not bool for part in rest):
                return False
        for n, kind, where in visits:
            if not number(n, 0, TOP) or kind not in {"touch": 1, "drop": 1} or not number(where, 0, TOP):
                return False
        return [n for n, _, _ in visits] == sorted(n for n, _, _ in visits) and all(type(part) is tuple for part in (thing, data, fetch, thing[4], *before, *visits))
    except (TypeError, ValueError):
        return False


if __name__ == "__main__":
    unittest.main()
