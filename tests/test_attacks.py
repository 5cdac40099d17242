"""Two ways of watching a cache (points 9.5 to 9.8)."""

import itertools
import random
import unittest

from sameclock.attacks import flush_and_reload, own_address, prime_and_probe
from sameclock.machine import run_machine
from sameclock.settings import is_settings
from machine_reference import drawn_code, drawn_contents, drawn_settings

STOP = (("stop", 0),)
FETCH = (1, 1, 16, "lru")
SETS = (1, 2, 4, 8, 16, 32, 64)


def settings_of(data, before=(), visits=(), guess=("taken",), depth=0):
    return (data, FETCH, guess, depth, (10, 5), before, visits)


def code_of(*sizes, rows=STOP):
    return (tuple((sum(sizes[:k]), size, ("public", "secret")[k % 2]) for k, size in enumerate(sizes)), rows)


class TestOwnAddresses(unittest.TestCase):
    def test_beginnings(self):
        settings = settings_of((4, 2, 4, "lru"))
        for sizes, wanted in (((), 0), ((1,), 16), ((15,), 16), ((16,), 16), ((17,), 32), ((16, 16), 32), ((16, 1), 32), ((1, 1, 1), 16), ((4096,), 4096), ((4096, 1), 4112)):
            self.assertEqual(own_address(code_of(*sizes), settings, 0, 0), wanted, sizes)

    def test_ways_and_sets(self):
        code = code_of(10, 7)
        settings = settings_of((4, 8, 2, "plru"))
        self.assertEqual([own_address(code, settings, 0, j) for j in range(4)], [24, 26, 28, 30])
        self.assertEqual([own_address(code, settings, 1, j) for j in range(4)], [32, 34, 36, 38])
        self.assertEqual(own_address(code, settings, 7, 3), 24 + 31 * 2)

    def test_only_the_data_cache_counts(self):
        settings = ((1, 1, 1, "lru"), (64, 8, 16, "lru"), ("two", 4), 8, (1, 1), (("data", 900),), ((0, "touch", 900),))
        self.assertEqual(own_address(code_of(3), settings, 0, 0), 3)

    def test_what_holds(self):
        for sets, ways, line in itertools.product(SETS, (1, 2, 4, 8), (1, 2, 4, 8, 16)):
            for sizes in ((), (1,), (5, 3), (64, 64), (100,), (4096, 31)):
                code = code_of(*sizes)
                settings = settings_of((sets, ways, line, "lru"))
                end = sum(sizes)
                addresses = [own_address(code, settings, k, j) for k in range(ways) for j in range(sets)]
                self.assertEqual(addresses, [addresses[0] + line * k for k in range(sets * ways)])
                self.assertTrue(addresses[0] % (sets * line) == 0 and end <= addresses[0] < end + sets * line)
                for (_, j), address in zip(itertools.product(range(ways), range(sets)), addresses):
                    self.assertEqual(address // line % sets, j)
                self.assertFalse({address // line for address in addresses} & {word // line for word in range(end)})


class TestPrimeAndProbe(unittest.TestCase):
    def test_settings(self):
        settings = settings_of((2, 2, 4, "fifo"), (("data", 1), ("fetch", 2)), ((0, "touch", 1), (5, "drop", 2), (5, "touch", 3), (6, "touch", 4)))
        primes = (("data", 16), ("data", 20), ("data", 24), ("data", 28))
        for n in range(8):
            probes = tuple((n, "touch", address) for address in (24, 28, 16, 20))
            at = {0: 1, 1: 1, 2: 1, 3: 1, 4: 1, 5: 3, 6: 4, 7: 4}[n]
            wanted = settings[:5] + (settings[5] + primes, settings[6][:at] + probes + settings[6][at:])
            self.assertEqual(prime_and_probe(code_of(9), settings, n), wanted)

    def test_without_visits(self):
        settings = settings_of((1, 1, 16, "lru"))
        self.assertEqual(prime_and_probe(code_of(), settings, 3), settings[:5] + ((("data", 0),), ((3, "touch", 0),)))
        self.assertEqual(prime_and_probe(code_of(17), settings, 2 ** 20), settings[:5] + ((("data", 32),), ((2 ** 20, "touch", 32),)))

    def test_all_sizes(self):
        for sets, ways, line, policy in itertools.product(SETS, (1, 2, 4, 8), (1, 4, 16), ("lru", "fifo", "plru")):
            code = code_of(4096, 4096)
            settings = settings_of((sets, ways, line, policy), (("data", 0),), ((3, "touch", 1),))
            found = prime_and_probe(code, settings, 2)
            self.assertIs(is_settings(found), True)
            self.assertEqual(found[5][1:], tuple(("data", own_address(code, settings, k, j)) for k in range(ways) for j in range(sets)))
            self.assertEqual(found[6][:-1], tuple((2, "touch", own_address(code, settings, k, j)) for k in range(ways - 1, -1, -1) for j in range(sets)))

    def test_nothing_is_found_where_nothing_is_touched(self):
        for policy in ("lru", "fifo", "plru"):
            for sets, ways in itertools.product((1, 4, 64), (1, 2, 4, 8)):
                settings = prime_and_probe(code_of(8), settings_of((sets, ways, 4, policy)), 0)
                events = run_machine(code_of(8), ((0,) * 8,), settings, 10)[3]
                self.assertEqual([event[3] for event in events if event[0] == "touch"], [True] * (sets * ways))

    def missed_sets(self, code, contents, settings, n):
        """The sets in which the watcher misses."""
        sets = settings[0][0]
        events = run_machine(code, contents, prime_and_probe(code, settings, n), 1000)[3]
        return sorted({event[2] % sets for event in events if event[0] == "touch" and not event[3]})

    def test_it_finds_the_sets_that_were_touched(self):
        for sets, ways, line in itertools.product((1, 2, 8, 32), (1, 2, 4, 8), (1, 2, 4)):
            for policy in ("lru", "fifo", "plru"):
                settings = settings_of((sets, ways, line, policy))
                for secret in (0, 1, 5, 17, 63):
                    code = code_of(64, 1, rows=(("load", 1, 0, 64, 0), ("load", 2, 1, 0, 63), ("stop", 0)))
                    missed = self.missed_sets(code, (tuple(range(64)), (secret,)), settings, 2)
                    self.assertEqual(missed, sorted({64 // line % sets, secret // line % sets}))

    def test_touched_later_than_the_probe(self):
        settings = settings_of((8, 1, 1, "lru"))
        code = code_of(64, 1, rows=(("load", 1, 0, 64, 0), ("load", 2, 1, 0, 63), ("stop", 0)))
        contents = (tuple(range(64)), (5,))
        self.assertEqual([self.missed_sets(code, contents, settings, n) for n in (0, 1, 2, 3)], [[], [0], [0, 5], []])

    def test_a_probe_on_the_way_back_does_not_evict_itself(self):
        # With lru the ways are touched from the last one down, so that one miss does not lead to the next one.
        settings = settings_of((1, 8, 1, "lru"))
        code = code_of(64, rows=(("load", 1, 0, 0, 0), ("stop", 0)))
        events = run_machine(code, ((0,) * 64,), prime_and_probe(code, settings, 1), 10)[3]
        self.assertEqual([event[3] for event in events if event[0] == "touch"], [True] * 7 + [False])

    def test_what_only_a_wrong_way_touches(self):
        settings = settings_of((16, 1, 1, "lru"), guess=("taken",), depth=4)
        code = code_of(64, 1, rows=(("load", 1, 0, 64, 0), ("branch", 0, 3), ("stop", 0), ("load", 2, 1, 0, 63), ("stop", 0)))
        for secret in (3, 9):
            settings = settings[:4] + ((1, 20), (), ())
            missed = self.missed_sets(code, ((0,) * 64, (secret,)), settings, 4)
            self.assertEqual(missed, sorted({0, secret}))


class TestFlushAndReload(unittest.TestCase):
    def test_settings(self):
        settings = settings_of((2, 2, 4, "fifo"), (("data", 1),), ((0, "touch", 1), (5, "drop", 2), (5, "touch", 3), (7, "touch", 4)))
        code = code_of(6, 7, 3)
        # The second region has the words 6 to 12, which lie in the lines 1, 2 and 3.
        for n in range(9):
            for m in range(n, 9):
                drops = tuple((n, "drop", address) for address in (4, 8, 12))
                touches = tuple((m, "touch", address) for address in (4, 8, 12))
                rest = settings[6]
                wanted = tuple(visit for visit in rest if visit[0] <= n) + drops + tuple(visit for visit in rest if n < visit[0] <= m) + touches
                wanted += tuple(visit for visit in rest if visit[0] > m)
                found = flush_and_reload(code, settings, 1, n, m)
                self.assertEqual(found, settings[:6] + (wanted,))
                self.assertIs(is_settings(found), True)

    def test_at_one_fetch(self):
        settings = settings_of((1, 1, 1, "lru"))
        self.assertEqual(flush_and_reload(code_of(2), settings, 0, 3, 3)[6], ((3, "drop", 0), (3, "drop", 1), (3, "touch", 0), (3, "touch", 1)))

    def test_lines(self):
        code = code_of(1, 15, 1, 16, 3, 100)
        for line in (1, 2, 4, 8, 16):
            for region, (base, size, _) in enumerate(code[0]):
                found = flush_and_reload(code, settings_of((4, 2, line, "lru")), region, 1, 2)[6]
                lines = sorted({word // line for word in range(base, base + size)})
                self.assertEqual(found, tuple((1, "drop", number * line) for number in lines) + tuple((2, "touch", number * line) for number in lines))

    def hits(self, code, contents, settings, region, n, m):
        events = run_machine(code, contents, flush_and_reload(code, settings, region, n, m), 1000)[3]
        return [event[2] for event in events if event[0] == "touch" and event[3]]

    def test_it_finds_the_lines_that_were_touched(self):
        code = code_of(64, 1, rows=(("load", 1, 0, 64, 0), ("load", 2, 1, 0, 63), ("load", 3, 0, 17, 0), ("stop", 0)))
        for line in (1, 2, 4, 8, 16):
            settings = settings_of((64, 8, line, "lru"), before=tuple(("data", at) for at in range(64)))
            for secret in (0, 1, 17, 40, 63):
                contents = ((0,) * 64, (secret,))
                # Its own touches come into the cache, too, but each of them only once.
                self.assertEqual(self.hits(code, contents, settings, 0, 0, 3), sorted({secret // line, 17 // line}))
                self.assertEqual(self.hits(code, contents, settings, 0, 0, 2), [secret // line])
                self.assertEqual(self.hits(code, contents, settings, 0, 2, 3), [17 // line])
                self.assertEqual(self.hits(code, contents, settings, 0, 0, 1), [])
                self.assertEqual(self.hits(code, contents, settings, 0, 1, 1), [])

    def test_a_wrong_way(self):
        rows = (("load", 1, 0, 64, 0), ("branch", 0, 3), ("stop", 0), ("load", 2, 1, 0, 63), ("stop", 0))
        code = code_of(64, 1, rows=rows)
        for secret in (5, 50):
            settings = ((64, 8, 1, "lru"), FETCH, ("taken",), 4, (1, 20), (), ())
            self.assertEqual(self.hits(code, ((0,) * 64, (secret,)), settings, 0, 0, 4), [secret])


class TestDrawn(unittest.TestCase):
    def test_settings_stay_in_form_and_order(self):
        for number in range(1500):
            chance = random.Random(number)
            code = drawn_code(number)
            settings = drawn_settings(number, most_fetch=6)
            n = chance.randrange(7)
            m = n + chance.randrange(4)
            primed = prime_and_probe(code, settings, n)
            sets, ways, line, _ = settings[0]
            end = max((base + size for base, size, _ in code[0]), default=0)
            first = next(address for address in range(end, end + sets * line) if address % (sets * line) == 0)
            self.assertEqual(primed[5], settings[5] + tuple(("data", first + line * k) for k in range(sets * ways)))
            found = [primed]
            for region, (base, size, _) in enumerate(code[0]):
                found.append(flush_and_reload(code, settings, region, n, m))
            for k, other in enumerate(found):
                self.assertIs(is_settings(other), True)
                self.assertEqual(other[:5], settings[:5])
                new = [visit for visit in other[6]]
                for visit in settings[6]:
                    new.remove(visit)
                # A stable sort puts new visits behind those that are there.
                self.assertEqual(other[6], tuple(sorted(list(settings[6]) + new, key=lambda visit: visit[0])))
                if k > 0:
                    base, size, _ = code[0][k - 1]
                    lines = sorted({word // line * line for word in range(base, base + size)})
                    self.assertEqual(new, [(n, "drop", at) for at in lines] + [(m, "touch", at) for at in lines])
                    self.assertEqual(other[5], settings[5])

    def test_arguments_stay(self):
        code, settings = drawn_code(3), drawn_settings(3)
        before = (str(code), str(settings), drawn_contents(code, 3))
        prime_and_probe(code, settings, 2)
        if code[0]:
            flush_and_reload(code, settings, 0, 1, 2)
        self.assertEqual((str(code), str(settings), drawn_contents(code, 3)), before)


if __name__ == "__main__":
    unittest.main()
