"""Caches (points 8.1 to 8.3)."""

import itertools
import random
import unittest

from sameclock.cache import Cache
from cache_reference import LogCache

SETS = (1, 2, 4, 8, 16, 32, 64)
WAYS = (1, 2, 4, 8)
LINES = (1, 2, 4, 8, 16)
POLICIES = ("lru", "fifo", "plru")


class Case(unittest.TestCase):
    def touches(self, cache, *pairs):
        """Touches addresses; each one hits or misses as is told."""
        for address, hit in pairs:
            self.assertIs(cache.touch(address), hit, address)

    def misses(self, cache, *addresses):
        self.touches(cache, *[(address, False) for address in addresses])

    def hits(self, cache, *addresses):
        self.touches(cache, *[(address, True) for address in addresses])


class TestLines(Case):
    def test_line_of(self):
        for line in LINES:
            cache = Cache((4, 2, line, "lru"))
            for address in (0, 1, line - 1, line, line + 1, 7 * line - 1, 7 * line, 1000, 2 ** 20, 10 ** 9):
                self.assertEqual(cache.line_of(address), address // line)
                self.assertIs(type(cache.line_of(address)), int)
            self.assertEqual([cache.line_of(address) for address in range(3 * line)], [0] * line + [1] * line + [2] * line)

    def test_line_of_touches_nothing(self):
        cache = Cache((1, 1, 4, "lru"))
        cache.line_of(5)
        self.assertEqual(cache.places(0), (None,))
        self.misses(cache, 5)

    def test_empty_at_the_beginning(self):
        for sets, ways, line, policy in itertools.product(SETS, WAYS, (1, 16), POLICIES):
            cache = Cache((sets, ways, line, policy))
            for number in range(sets):
                self.assertEqual(cache.places(number), (None,) * ways)
            self.assertIs(cache.drop(0), False)

    def test_words_of_a_line(self):
        for line in LINES:
            cache = Cache((2, 1, line, "fifo"))
            self.misses(cache, 3 * line)
            self.hits(cache, *range(3 * line, 4 * line))
            self.misses(cache, 4 * line, 3 * line - 1)
            self.assertEqual(cache.places(0), (2,))
            self.assertEqual(cache.places(1), (3,))

    def test_sets_of_lines(self):
        for sets in SETS:
            cache = Cache((sets, 2, 4, "lru"))
            self.misses(cache, *[4 * line for line in range(2 * sets)])
            for number in range(sets):
                self.assertEqual(cache.places(number), (number, number + sets))
            self.misses(cache, 8 * sets)
            self.assertEqual(cache.places(0), (2 * sets, sets))
            for number in range(1, sets):
                self.assertEqual(cache.places(number), (number, number + sets))

    def test_great_addresses(self):
        cache = Cache((64, 8, 16, "plru"))
        self.misses(cache, 2 ** 20, 2 ** 20 + 16, 2 ** 40)
        self.hits(cache, 2 ** 20 + 15, 2 ** 40)
        self.assertEqual(cache.places(0)[:2], (2 ** 16, 2 ** 36))
        self.assertEqual(cache.places(1)[0], 2 ** 16 + 1)


class TestPolicies(Case):
    def test_places_are_filled_from_the_least_one(self):
        for ways, policy in itertools.product(WAYS, POLICIES):
            cache = Cache((1, ways, 1, policy))
            for k in range(ways):
                self.misses(cache, 100 + k)
                self.hits(cache, 100)
                self.assertEqual(cache.places(0), tuple(range(100, 101 + k)) + (None,) * (ways - 1 - k))

    def test_one_way(self):
        for policy in POLICIES:
            cache = Cache((1, 1, 1, policy))
            self.touches(cache, (5, False), (5, True), (6, False), (5, False), (5, True), (7, False))
            self.assertEqual(cache.places(0), (7,))

    def test_lru(self):
        cache = Cache((1, 4, 1, "lru"))
        self.misses(cache, 1, 2, 3, 4)
        self.hits(cache, 1, 3)
        self.misses(cache, 5)
        self.assertEqual(cache.places(0), (1, 5, 3, 4))
        self.misses(cache, 6)
        self.assertEqual(cache.places(0), (1, 5, 3, 6))
        self.hits(cache, 1, 5)
        self.misses(cache, 7)
        self.assertEqual(cache.places(0), (1, 5, 7, 6))

    def test_fifo(self):
        cache = Cache((1, 4, 1, "fifo"))
        self.misses(cache, 1, 2, 3, 4)
        self.hits(cache, 1, 3, 1)
        self.misses(cache, 5)
        self.assertEqual(cache.places(0), (5, 2, 3, 4))
        self.hits(cache, 2)
        self.misses(cache, 6)
        self.assertEqual(cache.places(0), (5, 6, 3, 4))
        self.misses(cache, 1)
        self.assertEqual(cache.places(0), (5, 6, 1, 4))

    def test_plru_of_four(self):
        cache = Cache((1, 4, 1, "plru"))
        self.misses(cache, 1, 2, 3, 4)
        # All of the tree points to the left now, by the last touching of each half.
        self.misses(cache, 5)
        self.assertEqual(cache.places(0), (5, 2, 3, 4))
        self.misses(cache, 6)
        self.assertEqual(cache.places(0), (5, 2, 6, 4))
        self.hits(cache, 5)
        self.misses(cache, 7)
        self.assertEqual(cache.places(0), (5, 2, 6, 7))
        self.hits(cache, 6)
        self.misses(cache, 8)
        self.assertEqual(cache.places(0), (5, 8, 6, 7))

    def test_plru_of_two_is_lru(self):
        chance = random.Random(3)
        first, second = Cache((2, 2, 1, "plru")), Cache((2, 2, 1, "lru"))
        for _ in range(500):
            address = chance.randrange(8)
            self.assertIs(first.touch(address), second.touch(address))
            self.assertEqual((first.places(0), first.places(1)), (second.places(0), second.places(1)))

    def test_plru_of_eight(self):
        cache = Cache((1, 8, 1, "plru"))
        self.misses(cache, *range(8))
        self.misses(cache, *range(10, 18))
        # Each miss goes to the other half of the tree, and in it to the other quarter.
        self.assertEqual(cache.places(0), (10, 14, 12, 16, 11, 15, 13, 17))
        self.hits(cache, 10)
        self.misses(cache, 20)
        self.assertEqual(cache.places(0), (10, 14, 12, 16, 20, 15, 13, 17))

    def test_a_hit_turns_pointers_while_places_are_empty(self):
        cache = Cache((1, 4, 1, "plru"))
        self.misses(cache, 1, 2, 3, 4)
        self.hits(cache, 1)
        self.misses(cache, 5)
        self.assertEqual(cache.places(0), (1, 2, 5, 4))


class TestDropping(Case):
    def test_dropping(self):
        for policy in POLICIES:
            cache = Cache((2, 2, 4, policy))
            self.misses(cache, 0, 8)
            self.assertIs(cache.drop(4), False)
            self.assertIs(cache.drop(16), False)
            self.assertIs(cache.drop(3), True)
            self.assertEqual(cache.places(0), (None, 2))
            self.assertIs(cache.drop(0), False)
            self.hits(cache, 11)
            self.misses(cache, 2)
            self.assertEqual(cache.places(0), (0, 2))

    def test_empty_places_come_first(self):
        for policy in POLICIES:
            cache = Cache((1, 4, 1, policy))
            self.misses(cache, 1, 2, 3, 4)
            cache.drop(4)
            cache.drop(2)
            self.misses(cache, 5)
            self.assertEqual(cache.places(0), (1, 5, 3, None))
            self.misses(cache, 6)
            self.assertEqual(cache.places(0), (1, 5, 3, 6))

    def test_lru_behind_dropping(self):
        cache = Cache((1, 2, 1, "lru"))
        self.misses(cache, 1, 2)
        cache.drop(1)
        self.misses(cache, 1)
        # 1 has the first place again, but 2 was touched longer ago.
        self.misses(cache, 3)
        self.assertEqual(cache.places(0), (1, 3))

    def test_dropping_touches_nothing(self):
        cache = Cache((1, 4, 1, "lru"))
        self.misses(cache, 1, 2, 3, 4)
        self.assertIs(cache.drop(9), False)
        cache.drop(3)
        self.misses(cache, 5, 6)
        self.assertEqual(cache.places(0), (6, 2, 5, 4))

    def test_fifo_behind_dropping(self):
        cache = Cache((1, 2, 1, "fifo"))
        self.misses(cache, 1, 2)
        cache.drop(1)
        self.misses(cache, 1, 3)
        self.assertEqual(cache.places(0), (1, 3))

    def test_pointers_stay(self):
        cache = Cache((1, 4, 1, "plru"))
        self.misses(cache, 1, 2, 3, 4)
        self.hits(cache, 3)
        cache.drop(3)
        cache.drop(1)
        # Into place 0, then into place 2: the root points to the left, which points to place 1.
        self.misses(cache, 5, 6, 7)
        self.assertEqual(cache.places(0), (5, 7, 6, 4))

    def test_all_dropped(self):
        cache = Cache((1, 4, 1, "plru"))
        self.misses(cache, 1)
        cache.drop(1)
        self.misses(cache, 2, 3, 4, 5)
        self.assertEqual(cache.places(0), (2, 3, 4, 5))
        self.misses(cache, 6)
        self.assertEqual(cache.places(0), (6, 3, 4, 5))


class TestObjects(Case):
    def test_returned_places_stay(self):
        cache = Cache((1, 2, 1, "lru"))
        before = cache.places(0)
        self.misses(cache, 1)
        self.assertEqual(before, (None, None))
        self.assertIs(type(before), tuple)

    def test_caches_are_apart(self):
        settings = (1, 2, 1, "plru")
        first, second = Cache(settings), Cache(settings)
        self.misses(first, 1)
        self.misses(second, 1)
        self.assertEqual(settings, (1, 2, 1, "plru"))


class TestAgainstTheLog(Case):
    def test_each_size_and_policy(self):
        for number, settings in enumerate(itertools.product(SETS, WAYS, LINES, POLICIES)):
            self.compare(settings, number, 120)

    def test_long_rows(self):
        for number, settings in enumerate(itertools.product((1, 2), WAYS, (1, 4), POLICIES)):
            self.compare(settings, number, 600)

    def compare(self, settings, number, many):
        sets, ways, line, _ = settings
        chance = random.Random(number)
        cache, log = Cache(settings), LogCache(settings)
        used = [chance.randrange(sets) for _ in range(2)]
        drops = chance.choice([0.0, 0.05, 0.3])
        for _ in range(many):
            address = (chance.choice(used) + sets * chance.randrange(2 * ways)) * line + chance.randrange(line)
            if chance.random() < drops:
                self.assertIs(cache.drop(address), log.drop(address), settings)
            else:
                self.assertIs(cache.touch(address), log.touch(address), settings)
            for place in used:
                self.assertEqual(cache.places(place), log.places(place), settings)
        for place in range(sets):
            self.assertEqual(cache.places(place), log.places(place))


if __name__ == "__main__":
    unittest.main()
