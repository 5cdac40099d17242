"""The machine (points 8.5 to 8.12)."""

import itertools
import random
import unittest

from sameclock.code_form import is_code
from sameclock.ir import SIGNS
from sameclock.machine import cost_of, run_machine
from sameclock.plain import plain_run
from sameclock.settings import is_settings
from machine_reference import SlowMachine, drawn_code, drawn_contents, drawn_settings, drawn_taken_code, slow_cost, slow_run

TOP = 2 ** 32 - 1
DATA = (1, 2, 4, "lru")
FETCH = (1, 1, 16, "lru")
REGIONS = ((0, 4, "public"), (4, 4, "secret"))
CONTENTS = ((7, 8, 9, 10), (100, 101, 102, 103))
Y, N = True, False


def settings_of(data=DATA, fetch=FETCH, guess=("taken",), depth=4, costs=(10, 5), before=(), visits=()):
    settings = (data, fetch, guess, depth, costs, before, visits)
    assert is_settings(settings), settings
    return settings


class Case(unittest.TestCase):
    def runs(self, rows, settings, steps=1000, regions=REGIONS, contents=CONTENTS):
        code = (regions, rows)
        self.assertTrue(is_code(code))
        found = run_machine(code, contents, settings, steps)
        self.assertEqual(found, slow_run(code, contents, settings, steps))
        self.assertEqual(found[:3], plain_run(code, contents, steps))
        return found

    def trace(self, rows, wanted, settings=settings_of(), steps=1000, **others):
        """The whole trace of a run; gives the rest of what the run gave."""
        outs, result, contents, events = self.runs(rows, settings, steps, **others)
        self.assertEqual(events, wanted)
        for event, other in zip(events, wanted):
            self.assertEqual([type(part) for part in event], [type(part) for part in other])
        return (outs, result, contents)


class TestCosts(unittest.TestCase):
    def test_plain_signs(self):
        for sign in SIGNS:
            for a, b in itertools.product((0, 1, 2, 255, 2 ** 31, TOP), repeat=2):
                if sign not in ("*", "div", "mod"):
                    self.assertEqual(cost_of(sign, a, b), 1)
                self.assertEqual(cost_of(sign, a, b), slow_cost(sign, a, b))

    def test_times(self):
        for a, b in itertools.product((0, 1, TOP), repeat=2):
            self.assertEqual(cost_of("*", a, b), 3)

    def test_div_and_mod(self):
        for sign in ("div", "mod"):
            for a, b, wanted in ((0, 0, 4), (1, 0, 5), (0, 1, 4), (1, 1, 4), (2, 1, 5), (3, 1, 5), (4, 1, 6), (3, 2, 4), (100, 3, 9), (3, 100, 4), (255, 256, 4), (256, 255, 5),
                                 (TOP, 0, 36), (TOP, 1, 35), (TOP, TOP, 4), (2 ** 31, 0, 36), (2 ** 31, 2 ** 30, 5), (0, TOP, 4)):
                self.assertEqual(cost_of(sign, a, b), wanted, (a, b))


class TestRows(Case):
    def test_stop(self):
        self.assertEqual(self.trace((("stop", 3),), (("fetch", 0, 0, N), ("stop", 10))), ((), 0, CONTENTS))

    def test_const(self):
        ends = self.trace((("const", 1, 5), ("stop", 1)), (("fetch", 0, 0, N), ("fetch", 11, 0, Y), ("stop", 11)))
        self.assertEqual(ends, ((), 5, CONTENTS))

    def test_select_and_plain_op(self):
        rows = (("const", 1, 5), ("op", "+", 2, 1, 1), ("select", 3, 2, 1, 2), ("select", 4, 0, 1, 2), ("op", "-", 5, 3, 4), ("stop", 5))
        events = (("fetch", 0, 0, N), ("fetch", 11, 0, Y), ("fetch", 12, 0, Y), ("fetch", 13, 0, Y), ("fetch", 14, 0, Y), ("fetch", 15, 0, Y), ("stop", 15))
        self.assertEqual(self.trace(rows, events), ((), TOP - 4, CONTENTS))

    def test_times_and_waiting(self):
        rows = (("const", 1, 5), ("op", "*", 2, 1, 1), ("out", 2), ("stop", 2))
        events = (("fetch", 0, 0, N), ("fetch", 11, 0, Y), ("fetch", 12, 0, Y), ("out", 14, 25), ("fetch", 15, 0, Y), ("stop", 15))
        self.assertEqual(self.trace(rows, events), ((25,), 25, CONTENTS))

    def test_div_and_waiting(self):
        rows = (("const", 1, 100), ("const", 2, 3), ("op", "div", 3, 1, 2), ("op", "mod", 4, 1, 2), ("op", "+", 5, 4, 3), ("stop", 5))
        # The div is ready at 12 + 9, the mod at 13 + 9.
        events = (("fetch", 0, 0, N), ("fetch", 11, 0, Y), ("fetch", 12, 0, Y), ("fetch", 13, 0, Y), ("fetch", 14, 0, Y), ("fetch", 23, 0, Y), ("stop", 23))
        self.assertEqual(self.trace(rows, events), ((), 34, CONTENTS))

    def test_costs_of_operands_that_are_written(self):
        rows = (("const", 1, 100), ("op", "div", 1, 1, 1), ("op", "mod", 1, 1, 0), ("stop", 1))
        # 100 div 100 is ready at 11 + 4; it is 1, so that 1 mod 0 is ready at 15 + 5.
        events = (("fetch", 0, 0, N), ("fetch", 11, 0, Y), ("fetch", 12, 0, Y), ("fetch", 16, 0, Y), ("stop", 20))
        self.assertEqual(self.trace(rows, events), ((), 1, CONTENTS))

    def test_loads(self):
        rows = (("load", 1, 0, 0, 3), ("load", 2, 0, 1, 0), ("op", "+", 3, 1, 2), ("stop", 3))
        events = (("fetch", 0, 0, N), ("data", 10, 0, N), ("fetch", 11, 0, Y), ("data", 11, 0, Y), ("fetch", 12, 0, Y), ("fetch", 23, 0, Y), ("stop", 23))
        self.assertEqual(self.trace(rows, events), ((), 15, CONTENTS))

    def test_a_load_that_hits_is_ready_behind_two(self):
        rows = (("load", 1, 0, 0, 3), ("load", 2, 0, 1, 0), ("out", 2), ("stop", 2))
        events = (("fetch", 0, 0, N), ("data", 10, 0, N), ("fetch", 11, 0, Y), ("data", 11, 0, Y), ("fetch", 12, 0, Y), ("out", 13, 8), ("fetch", 14, 0, Y), ("stop", 14))
        self.assertEqual(self.trace(rows, events), ((8,), 8, CONTENTS))

    def test_addresses(self):
        rows = (("const", 1, 2 ** 31 + 6), ("load", 2, 1, 2, 3), ("load", 3, 1, 4, 1), ("load", 4, 1, 0, 0), ("op", "+", 5, 2, 3), ("op", "+", 5, 5, 4), ("stop", 5))
        self.assertEqual(self.runs(rows, settings_of())[1], 100 + 100 + 7)

    def test_a_register_that_is_written_anew_is_ready_sooner(self):
        rows = (("load", 1, 0, 0, 0), ("const", 1, 3), ("out", 1), ("stop", 1))
        events = (("fetch", 0, 0, N), ("data", 10, 0, N), ("fetch", 11, 0, Y), ("fetch", 12, 0, Y), ("out", 12, 3), ("fetch", 13, 0, Y), ("stop", 13))
        self.assertEqual(self.trace(rows, events), ((3,), 3, CONTENTS))

    def test_stores(self):
        rows = (("const", 1, 5), ("store", 1, 4, 3, 1), ("load", 2, 0, 5, 0), ("store", 0, 3, 0, 2), ("stop", 2))
        # The second store waits for the load of the word that it stores.
        events = (("fetch", 0, 0, N), ("fetch", 11, 0, Y), ("data", 11, 1, N), ("fetch", 12, 0, Y), ("data", 12, 1, Y), ("fetch", 13, 0, Y), ("data", 14, 0, N),
                  ("fetch", 15, 0, Y), ("stop", 15))
        self.assertEqual(self.trace(rows, events), ((), 5, ((7, 8, 9, 5), (100, 5, 102, 103))))

    def test_a_store_that_misses_takes_no_time(self):
        rows = (("store", 0, 0, 0, 0), ("store", 0, 4, 0, 0), ("stop", 0))
        events = (("fetch", 0, 0, N), ("data", 10, 0, N), ("fetch", 11, 0, Y), ("data", 11, 1, N), ("fetch", 12, 0, Y), ("stop", 12))
        self.assertEqual(self.trace(rows, events)[2], ((0, 8, 9, 10), (0, 101, 102, 103)))

    def test_waiting_of_each_kind(self):
        # Register 1 is ready at 22, and each row but a jump and a branch waits for it wherever it is read.
        load = ("load", 1, 0, 0, 0)
        head = (("fetch", 0, 0, N), ("data", 10, 0, N), ("fetch", 11, 0, Y))
        for row in (("op", "+", 2, 1, 0), ("op", "+", 2, 0, 1), ("select", 2, 1, 0, 0), ("select", 2, 0, 1, 0), ("select", 2, 0, 0, 1)):
            self.trace((load, row, ("stop", 0)), head + (("fetch", 23, 0, Y), ("stop", 23)))
        self.trace((load, ("load", 2, 1, 4, 0), ("stop", 0)), head + (("data", 22, 1, N), ("fetch", 23, 0, Y), ("stop", 23)))
        self.trace((load, ("store", 1, 4, 0, 0), ("stop", 0)), head + (("data", 22, 1, N), ("fetch", 23, 0, Y), ("stop", 23)))
        self.trace((load, ("store", 0, 4, 0, 1), ("stop", 0)), head + (("data", 22, 1, N), ("fetch", 23, 0, Y), ("stop", 23)))
        self.trace((load, ("out", 1), ("stop", 0)), head + (("out", 22, 7), ("fetch", 23, 0, Y), ("stop", 23)))
        self.trace((load, ("stop", 1)), head + (("stop", 22),))
        self.trace((load, ("const", 1, 3), ("stop", 0)), head + (("fetch", 12, 0, Y), ("stop", 12)))
        self.trace((load, ("load", 1, 0, 4, 0), ("stop", 0)), head + (("data", 11, 1, N), ("fetch", 12, 0, Y), ("stop", 12)))
        self.trace((load, ("jump", 2), ("stop", 0)), head + (("fetch", 12, 0, Y), ("stop", 12)))
        self.trace((load, ("branch", 1, 3), ("stop", 0), ("stop", 0)), head + (("guess", 11, 1, Y), ("fetch", 12, 0, Y), ("stop", 12)))

    def test_jumps(self):
        rows = (("jump", 2), ("stop", 0), ("const", 1, 4), ("jump", 5), ("stop", 0), ("jump", 6), ("stop", 1))
        events = (("fetch", 0, 0, N), ("fetch", 11, 0, Y), ("fetch", 12, 0, Y), ("fetch", 13, 0, Y), ("fetch", 14, 0, Y), ("stop", 14))
        self.assertEqual(self.trace(rows, events), ((), 4, CONTENTS))

    def test_memory_outside_of_regions(self):
        rows = (("const", 1, 9), ("load", 2, 0, 500000, 4095), ("store", 1, 500000, 0, 1), ("load", 3, 0, 499999, 1), ("load", 3, 1, 499999, 1), ("op", "+", 4, 2, 3), ("stop", 4))
        self.assertEqual(self.runs(rows, settings_of())[:3], ((), 9, CONTENTS))
        self.assertEqual(self.runs(rows, settings_of(), regions=(), contents=())[:3], ((), 9, ()))

    def test_times_are_not_negative_without_costs_of_misses(self):
        rows = (("load", 1, 0, 0, 0), ("stop", 1))
        self.trace(rows, (("fetch", 0, 0, N), ("data", 0, 0, N), ("fetch", 1, 0, Y), ("stop", 2)), settings_of(costs=(0, 5)))


class TestFetching(Case):
    def test_lines_and_misses(self):
        rows = (("const", 1, 1), ("const", 2, 2), ("const", 3, 3), ("jump", 0))
        settings = settings_of(fetch=(1, 1, 2, "lru"), costs=(3, 1))
        events = (("fetch", 0, 0, N), ("fetch", 4, 0, Y), ("fetch", 5, 1, N), ("fetch", 9, 1, Y), ("fetch", 10, 0, N), ("fetch", 14, 0, Y))
        self.trace(rows, events, settings, 6)
        events = (("fetch", 0, 0, N), ("fetch", 4, 0, Y), ("fetch", 5, 1, N), ("fetch", 9, 1, Y), ("fetch", 10, 0, Y), ("fetch", 11, 0, Y), ("fetch", 12, 1, Y))
        self.trace(rows, events, settings_of(fetch=(2, 1, 2, "fifo"), costs=(3, 1)), 7)

    def test_fetching_comes_before_waiting(self):
        rows = (("op", "*", 1, 0, 0), ("out", 1), ("stop", 0))
        settings = settings_of(fetch=(1, 1, 1, "lru"), costs=(1, 1))
        # The time of the second miss goes by while the row waits.
        self.trace(rows, (("fetch", 0, 0, N), ("fetch", 2, 1, N), ("out", 4, 0), ("fetch", 5, 2, N), ("stop", 6)), settings)

    def test_caches_are_apart(self):
        rows = (("load", 1, 0, 0, 0), ("stop", 1))
        settings = settings_of(data=(1, 1, 1, "lru"), fetch=(1, 2, 1, "lru"), costs=(0, 1))
        self.trace(rows, (("fetch", 0, 0, N), ("data", 0, 0, N), ("fetch", 1, 1, N), ("stop", 2)), settings)


class TestPreparations(Case):
    def test_each_kind(self):
        rows = (("load", 1, 0, 0, 0), ("branch", 0, 3), ("stop", 1), ("stop", 0))
        before = (("data", 3), ("fetch", 7), ("branch", 1, False), ("branch", 1, True))
        settings = settings_of(guess=("two", 4), before=before)
        self.trace(rows, (("fetch", 0, 0, Y), ("data", 0, 0, Y), ("fetch", 1, 0, Y), ("guess", 1, 1, N), ("fetch", 2, 0, Y), ("stop", 2)), settings)
        settings = settings_of(guess=("two", 4), before=before[:3] + (("branch", 5, True), ("branch", 9, True)))
        self.trace(rows[:2] + (("stop", 0), ("stop", 0)), (("fetch", 0, 0, Y), ("data", 0, 0, Y), ("fetch", 1, 0, Y), ("guess", 1, 1, Y), ("fetch", 2, 0, Y), ("back", 6, 1),
                                                           ("fetch", 6, 0, Y), ("stop", 6)), settings)

    def test_order(self):
        rows = (("load", 1, 0, 0, 0), ("stop", 0))
        head = (("fetch", 0, 0, N),)
        for before, hit in (((("data", 0), ("data", 4)), N), ((("data", 4), ("data", 0)), Y), ((("data", 4), ("data", 3), ("fetch", 99)), Y), ((), N)):
            self.assertEqual(self.runs(rows, settings_of(data=(1, 1, 4, "lru"), before=before))[3][:2], head + (("data", 10, 0, hit),))

    def test_rows_that_the_code_has_not(self):
        settings = settings_of(guess=("history", 2), before=(("fetch", 2 ** 20), ("branch", 2 ** 20, True), ("data", 2 ** 20)))
        self.trace((("stop", 0),), (("fetch", 0, 0, N), ("stop", 10)), settings)


class TestBranches(Case):
    def test_right_guesses(self):
        rows = (("const", 1, 1), ("branch", 1, 3), ("out", 1), ("stop", 1))
        self.trace(rows, (("fetch", 0, 0, N), ("fetch", 11, 0, Y), ("guess", 11, 1, Y), ("fetch", 12, 0, Y), ("stop", 12)))
        rows = (("branch", 0, 2), ("stop", 1), ("stop", 2))
        self.trace(rows, (("fetch", 0, 0, N), ("guess", 10, 0, N), ("fetch", 11, 0, Y), ("stop", 11)), settings_of(guess=("two", 1)))

    rows = (("const", 1, 0), ("branch", 1, 4), ("out", 1), ("stop", 1), ("load", 2, 0, 0, 0), ("op", "+", 3, 2, 2), ("out", 3), ("stop", 3))
    head = (("fetch", 0, 0, N), ("fetch", 11, 0, Y), ("guess", 11, 1, Y))

    def tail(self, time):
        return (("back", time, 1), ("fetch", time, 0, Y), ("out", time, 0), ("fetch", time + 1, 0, Y), ("stop", time + 1))

    def test_a_wrong_way_that_ends_while_it_waits(self):
        # The op waits until 24; where the way goes on until 25, it is done, but no more is fetched.
        wrong = (("fetch", 12, 0, Y), ("data", 12, 0, N), ("fetch", 13, 0, Y))
        for cost in range(3, 15):
            self.trace(self.rows, self.head + wrong + self.tail(11 + cost), settings_of(costs=(10, cost)))
        self.trace(self.rows, self.head + wrong + (("fetch", 25, 0, Y),) + self.tail(26), settings_of(costs=(10, 15)))
        self.trace(self.rows, self.head + wrong + (("fetch", 25, 0, Y), ("fetch", 26, 0, Y)) + self.tail(27), settings_of(costs=(10, 16)))

    def test_a_wrong_way_that_ends_by_the_clock(self):
        self.trace(self.rows, self.head + self.tail(12), settings_of(costs=(10, 1)))
        self.trace(self.rows, self.head + (("fetch", 12, 0, Y), ("data", 12, 0, N)) + self.tail(13), settings_of(costs=(10, 2)))

    def test_a_wrong_way_that_ends_by_depth(self):
        wrong = (("fetch", 12, 0, Y), ("data", 12, 0, N), ("fetch", 13, 0, Y), ("fetch", 25, 0, Y), ("fetch", 26, 0, Y))
        for depth, many in ((0, 0), (1, 2), (2, 3), (3, 4), (4, 5), (5, 5), (64, 5)):
            self.trace(self.rows, self.head + wrong[:many] + self.tail(111), settings_of(costs=(10, 100), depth=depth))

    def test_a_wrong_way_that_ends_at_a_stop(self):
        rows = (("branch", 0, 2), ("stop", 0), ("stop", 5))
        self.trace(rows, (("fetch", 0, 0, N), ("guess", 10, 0, Y), ("fetch", 11, 0, Y), ("back", 15, 0), ("fetch", 15, 0, Y), ("stop", 15)))

    def test_a_stop_that_waits_too_long(self):
        rows = (("op", "*", 1, 0, 0), ("branch", 0, 3), ("stop", 0), ("stop", 1))
        self.trace(rows, (("fetch", 0, 0, N), ("fetch", 11, 0, Y), ("guess", 11, 1, Y), ("fetch", 12, 0, Y), ("back", 13, 1), ("fetch", 13, 0, Y), ("stop", 13)),
                   settings_of(costs=(10, 2)))

    def test_a_miss_of_the_fetch_that_takes_too_long(self):
        rows = (("branch", 0, 2), ("stop", 0), ("load", 1, 0, 0, 0), ("stop", 0))
        settings = settings_of(fetch=(1, 4, 1, "lru"), costs=(4, 5))
        # The wrong row comes at 9, when the way has ended; but it stays in the cache.
        events = (("fetch", 0, 0, N), ("guess", 4, 0, Y), ("fetch", 5, 2, N), ("back", 9, 0), ("fetch", 9, 1, N), ("stop", 13))
        self.trace(rows, events, settings)
        events = events[:3] + (("data", 9, 0, N), ("back", 10, 0), ("fetch", 10, 1, N), ("stop", 14))
        self.trace(rows, events, settings_of(fetch=(1, 4, 1, "lru"), costs=(4, 6)))

    def test_the_end_depends_on_when_the_register_is_ready(self):
        rows = (("load", 1, 0, 4, 0), ("branch", 1, 4), ("const", 2, 1), ("jump", 2), ("stop", 1))
        settings = settings_of(guess=("two", 1), depth=64)
        # Register 1 is ready at 22, so that the way goes on until 22 + 5.
        events = [("fetch", 0, 0, N), ("data", 10, 1, N), ("fetch", 11, 0, Y), ("guess", 11, 1, N)] + [("fetch", time, 0, Y) for time in range(12, 27)]
        events += [("back", 27, 1), ("fetch", 27, 0, Y), ("stop", 27)]
        self.assertEqual(self.trace(rows, tuple(events), settings), ((), 100, CONTENTS))

    def test_a_wrong_way_behind_a_wrong_guess_to_the_right_row(self):
        rows = (("branch", 0, 1), ("const", 1, 3), ("stop", 1))
        # The target is the next row; the guess is wrong all the same.
        self.trace(rows, (("fetch", 0, 0, N), ("guess", 10, 0, Y), ("fetch", 11, 0, Y), ("fetch", 12, 0, Y), ("back", 15, 0), ("fetch", 15, 0, Y), ("fetch", 16, 0, Y),
                          ("stop", 16)))
        rows = (("const", 1, 3), ("branch", 1, 2), ("stop", 1))
        # It is taken, and learned so.
        settings = settings_of(guess=("two", 1))
        self.trace(rows, (("fetch", 0, 0, N), ("fetch", 11, 0, Y), ("guess", 11, 1, N), ("fetch", 12, 0, Y), ("back", 16, 1), ("fetch", 16, 0, Y), ("stop", 16)), settings)

    def test_learning(self):
        # A loop of three rounds: not taken is guessed first, then the counter is 2, then 3; then 3 is wrong.
        rows = (("const", 1, 3), ("const", 2, 1), ("op", "-", 1, 1, 2), ("branch", 1, 2), ("stop", 1))
        settings = settings_of(guess=("two", 1), depth=0, costs=(0, 1))
        guesses = [event[3] for event in self.runs(rows, settings)[3] if event[0] == "guess"]
        self.assertEqual(guesses, [N, Y, Y])
        backs = [event for event in self.runs(rows, settings)[3] if event[0] == "back"]
        self.assertEqual(len(backs), 2)

    def test_copies(self):
        rows = (("const", 1, 5), ("store", 0, 0, 0, 1), ("branch", 0, 6), ("load", 2, 0, 0, 0), ("out", 2), ("stop", 1),
                ("const", 1, 9), ("store", 0, 0, 0, 1), ("load", 3, 0, 0, 0), ("out", 3), ("store", 3, 4, 3, 3), ("stop", 3))
        settings = settings_of(depth=64, costs=(1, 60))
        events = (("fetch", 0, 0, N), ("fetch", 2, 0, Y), ("data", 2, 0, N), ("fetch", 3, 0, Y), ("guess", 3, 2, Y),
                  # Neither of the stores nor the out is seen; the out waits for what is loaded, which the copy of the memory gives.
                  ("fetch", 4, 0, Y), ("fetch", 5, 0, Y), ("fetch", 6, 0, Y), ("data", 6, 0, Y), ("fetch", 7, 0, Y), ("fetch", 9, 0, Y), ("fetch", 10, 0, Y),
                  ("back", 63, 2), ("fetch", 63, 0, Y), ("data", 63, 0, Y), ("fetch", 64, 0, Y), ("out", 65, 5), ("fetch", 66, 0, Y), ("stop", 66))
        self.assertEqual(self.trace(rows, events, settings), ((5,), 5, ((5, 8, 9, 10), CONTENTS[1])))

    def test_what_is_stored_on_a_wrong_way_is_loaded_there(self):
        rows = (("branch", 0, 2), ("stop", 0), ("const", 1, 12), ("store", 0, 0, 0, 1), ("load", 2, 0, 0, 0), ("load", 3, 2, 0, 4095), ("stop", 0))
        events = self.runs(rows, settings_of(data=(64, 1, 1, "lru"), depth=64, costs=(0, 60)))[3]
        # The address 12 is what the load of the address 0 gave.
        self.assertEqual([event[2] for event in events if event[0] == "data"], [0, 12])

    def test_branches_on_a_wrong_way(self):
        # Both branches are guessed taken; the second one is done on the wrong way, whatever it would find.
        rows = (("load", 1, 0, 4, 0), ("branch", 0, 3), ("stop", 0), ("branch", 1, 5), ("stop", 0), ("branch", 0, 7), ("stop", 0), ("out", 0), ("jump", 3))
        settings = settings_of(depth=6, costs=(10, 50))
        events = (("fetch", 0, 0, N), ("data", 10, 1, N), ("fetch", 11, 0, Y), ("guess", 11, 1, Y), ("fetch", 12, 0, Y), ("guess", 12, 3, Y), ("fetch", 13, 0, Y), ("guess", 13, 5, Y),
                  ("fetch", 14, 0, Y), ("fetch", 15, 0, Y), ("fetch", 16, 0, Y), ("guess", 16, 3, Y), ("fetch", 17, 0, Y), ("guess", 17, 5, Y), ("back", 61, 1),
                  ("fetch", 61, 0, Y), ("stop", 61))
        self.trace(rows, events, settings)

    def test_nothing_is_learned_on_a_wrong_way(self):
        # Branch 3 is met on the wrong way often, and guessed not taken each time.
        rows = (("const", 1, 1), ("branch", 1, 6), ("const", 2, 0), ("branch", 1, 5), ("jump", 3), ("stop", 0), ("branch", 1, 8), ("stop", 0), ("stop", 1))
        settings = settings_of(guess=("two", 64), depth=9, costs=(0, 40))
        events = self.runs(rows, settings)[3]
        self.assertEqual([event[2:] for event in events if event[0] == "guess"], [(1, N), (3, N), (3, N), (3, N), (3, N), (6, N)])

    def test_guesses_by_history_on_a_wrong_way(self):
        rows = (("const", 1, 1), ("branch", 1, 3), ("branch", 0, 4), ("branch", 1, 5), ("stop", 0), ("branch", 0, 1), ("stop", 0))
        for number in range(50):
            chance = random.Random(number)
            before = tuple(("branch", chance.randrange(6), chance.random() < 0.5) for _ in range(12))
            self.runs(rows, settings_of(guess=("history", 2), depth=12, costs=(2, 30), before=before))

    def test_times_on_a_wrong_way_are_copies(self):
        # The load on the wrong way makes register 2 ready late, but only there.
        rows = (("branch", 0, 3), ("out", 2), ("stop", 2), ("load", 2, 0, 0, 0), ("stop", 0))
        events = (("fetch", 0, 0, N), ("guess", 40, 0, Y), ("fetch", 41, 0, Y), ("data", 41, 0, N), ("fetch", 42, 0, Y), ("back", 43, 0), ("fetch", 43, 0, Y), ("out", 43, 0),
                  ("fetch", 44, 0, Y), ("stop", 44))
        self.trace(rows, events, settings_of(costs=(40, 3)))

    def test_what_was_done_to_the_caches_stays(self):
        rows = (("branch", 0, 3), ("load", 1, 0, 0, 0), ("stop", 0), ("load", 2, 0, 3, 0), ("stop", 0))
        events = (("fetch", 0, 0, N), ("guess", 10, 0, Y), ("fetch", 11, 0, Y), ("data", 11, 0, N), ("fetch", 12, 0, Y), ("back", 15, 0), ("fetch", 15, 0, Y), ("data", 15, 0, Y),
                  ("fetch", 16, 0, Y), ("stop", 16))
        self.trace(rows, events)

    def test_loads_outside_of_regions_on_a_wrong_way(self):
        # The address depends on a secret, where only a wrong way reads it.
        rows = (("branch", 0, 2), ("stop", 0), ("load", 1, 0, 4, 0), ("load", 2, 1, 1024, 4095), ("stop", 0))
        for secret in (0, 1, 77, 4095):
            events = self.runs(rows, settings_of(data=(64, 1, 1, "lru"), costs=(0, 30)), contents=(CONTENTS[0], (secret, 0, 0, 0)))[3]
            self.assertIn(("data", 3, 1024 + secret, N), events)


class TestVisits(Case):
    rows = (("load", 1, 0, 0, 0), ("load", 2, 0, 4, 0), ("jump", 3), ("stop", 0))

    def test_each_kind(self):
        visits = ((0, "touch", 1), (1, "touch", 5), (1, "drop", 3), (2, "drop", 0), (3, "touch", 2 ** 20))
        events = (("touch", 0, 0, N), ("fetch", 0, 0, N), ("data", 10, 0, Y), ("touch", 11, 1, N), ("drop", 11, 0, Y), ("fetch", 11, 0, Y), ("data", 11, 1, Y), ("drop", 12, 0, N),
                  ("fetch", 12, 0, Y), ("touch", 13, 2 ** 18, N), ("fetch", 13, 0, Y), ("stop", 13))
        self.trace(self.rows, events, settings_of(visits=visits))

    def test_visits_take_no_time_and_come_in_order(self):
        visits = tuple((1, kind, address) for kind, address in (("drop", 0), ("touch", 0), ("drop", 0), ("touch", 8), ("touch", 12), ("touch", 3)))
        events = (("fetch", 0, 0, N), ("data", 10, 0, N), ("drop", 11, 0, Y), ("touch", 11, 0, N), ("drop", 11, 0, Y), ("touch", 11, 2, N), ("touch", 11, 3, N), ("touch", 11, 0, N),
                  ("fetch", 11, 0, Y), ("data", 11, 1, N), ("fetch", 12, 0, Y), ("fetch", 13, 0, Y), ("stop", 13))
        self.trace(self.rows, events, settings_of(visits=visits))

    def test_visits_behind_the_last_fetch_are_not_made(self):
        for n, many in ((0, 1), (1, 1), (2, 1), (3, 1), (4, 0), (5, 0), (2 ** 20, 0)):
            events = self.runs(self.rows, settings_of(visits=((n, "touch", 9),)))[3]
            self.assertEqual(len([event for event in events if event[0] == "touch"]), many)

    def test_visits_count_fetches_on_wrong_ways(self):
        rows = (("branch", 0, 2), ("stop", 0), ("const", 1, 1), ("const", 1, 1), ("const", 1, 1), ("stop", 0))
        visits = tuple((n, "touch", 4 * n) for n in range(8))
        events = (("touch", 0, 0, N), ("fetch", 0, 0, N), ("guess", 10, 0, Y), ("touch", 11, 1, N), ("fetch", 11, 0, Y), ("touch", 12, 2, N), ("fetch", 12, 0, Y), ("touch", 13, 3, N),
                  ("fetch", 13, 0, Y), ("touch", 14, 4, N), ("fetch", 14, 0, Y), ("back", 20, 0), ("touch", 20, 5, N), ("fetch", 20, 0, Y), ("stop", 20))
        self.trace(rows, events, settings_of(visits=visits, costs=(10, 10)))

    def test_visits_that_wait_for_the_next_fetch(self):
        rows = (("branch", 0, 2), ("stop", 0), ("const", 1, 1), ("stop", 0))
        settings = settings_of(visits=((1, "touch", 0),), depth=0)
        self.trace(rows, (("fetch", 0, 0, N), ("guess", 10, 0, Y), ("back", 15, 0), ("touch", 15, 0, N), ("fetch", 15, 0, Y), ("stop", 15)), settings)

    def test_a_visit_changes_what_the_code_finds(self):
        rows = (("load", 1, 0, 0, 0), ("load", 2, 0, 0, 0), ("stop", 2))
        without = self.runs(rows, settings_of())[3]
        dropped = self.runs(rows, settings_of(visits=((1, "drop", 2),)))[3]
        self.assertEqual((without[-1], dropped[-1]), (("stop", 13), ("stop", 23)))


class TestLimits(Case):
    rows = (("const", 1, 1), ("out", 1), ("store", 0, 0, 0, 1), ("branch", 0, 0), ("stop", 1))

    def test_no_steps(self):
        settings = settings_of(before=(("data", 0),), visits=((0, "touch", 0),))
        self.assertEqual(self.trace(self.rows, (), settings, 0), ((), None, CONTENTS))

    def test_one_step(self):
        self.assertEqual(self.trace(self.rows, (("fetch", 0, 0, N),), steps=1), ((), None, CONTENTS))
        self.assertEqual(self.trace((("stop", 0),), (("fetch", 0, 0, N), ("stop", 10)), steps=1), ((), 0, CONTENTS))
        self.assertEqual(self.trace((("out", 0), ("stop", 0)), (("fetch", 0, 0, N), ("out", 10, 0)), steps=1), ((0,), None, CONTENTS))

    def test_each_limit(self):
        events = (("fetch", 0, 0, N), ("fetch", 11, 0, Y), ("out", 11, 1), ("fetch", 12, 0, Y), ("data", 12, 0, N), ("fetch", 13, 0, Y), ("guess", 13, 3, Y), ("fetch", 14, 0, Y),
                  ("fetch", 15, 0, Y), ("fetch", 16, 0, Y), ("fetch", 17, 0, Y), ("guess", 17, 3, Y), ("back", 18, 3), ("fetch", 18, 0, Y), ("stop", 18))
        stored = ((1, 8, 9, 10), CONTENTS[1])
        for steps, many, ends in ((1, 1, ((), None, CONTENTS)), (2, 3, ((1,), None, CONTENTS)), (3, 5, ((1,), None, stored)), (4, 13, ((1,), None, stored)),
                                  (5, 15, ((1,), 1, stored)), (6, 15, ((1,), 1, stored)), (10 ** 8, 15, ((1,), 1, stored))):
            self.assertEqual(self.trace(self.rows, events[:many], steps=steps), ends)

    def test_a_limit_at_a_branch(self):
        # The branch is the last row: its wrong way is gone, and the predictor learns, which nobody sees then.
        rows = (("branch", 0, 2), ("stop", 0), ("load", 1, 0, 0, 0), ("stop", 0))
        events = (("fetch", 0, 0, N), ("guess", 10, 0, Y), ("fetch", 11, 0, Y), ("data", 11, 0, N), ("fetch", 12, 0, Y), ("back", 15, 0))
        self.assertEqual(self.trace(rows, events, steps=1), ((), None, CONTENTS))
        rows = (("branch", 0, 2), ("stop", 0), ("stop", 0))
        self.trace(rows, (("fetch", 0, 0, N), ("guess", 10, 0, N)), settings_of(guess=("two", 1)), 1)

    def test_rows_on_wrong_ways_do_not_count(self):
        rows = (("branch", 0, 3), ("out", 0), ("stop", 0), ("const", 1, 1), ("jump", 3))
        outs, result, _, events = self.runs(rows, settings_of(depth=64, costs=(0, 100)), 3)
        self.assertEqual((outs, result), ((0,), 0))
        self.assertEqual(len([event for event in events if event[0] == "fetch"]), 64 + 3)

    def test_endless_code(self):
        self.assertEqual(self.runs((("jump", 0),), settings_of(), 500)[1], None)


class TestArguments(Case):
    def test_arguments_stay(self):
        code = drawn_code(5)
        contents = drawn_contents(code, 5)
        settings = drawn_settings(5)
        before = (str(code), str(contents), str(settings))
        first = run_machine(code, contents, settings, 50)
        self.assertEqual(run_machine(code, contents, settings, 50), first)
        self.assertEqual((str(code), str(contents), str(settings)), before)

    def test_kinds_of_values(self):
        outs, result, contents, trace = run_machine((REGIONS, (("out", 0), ("stop", 0))), CONTENTS, settings_of(), 5)
        self.assertEqual([type(part) for part in (outs, result, contents, contents[0], trace, trace[0])], [tuple, int, tuple, tuple, tuple, tuple])


class TestDrawn(unittest.TestCase):
    def compare(self, code, settings, number, steps):
        self.assertTrue(is_settings(settings))
        contents = drawn_contents(code, number)
        machine = SlowMachine(code, contents, settings)
        wanted = machine.run(steps)
        found = run_machine(code, contents, settings, steps)
        self.assertEqual(found, wanted, number)
        # Settings change only the trace (8.12).
        self.assertEqual(found[:3], plain_run(code, contents, steps))
        times = [event[1] for event in found[3]]
        self.assertEqual(times, sorted(times))
        return machine.ways

    def test_any_code(self):
        ways = 0
        for number in range(2500):
            ways += self.compare(drawn_code(number), drawn_settings(number), number, random.Random(number).choice([0, 1, 2, 40, 80]))
        self.assertGreater(ways, 1000)

    def test_code_that_is_like_code_of_programs(self):
        ways = 0
        for number in range(2500):
            ways += self.compare(drawn_taken_code(number), drawn_settings(number + 7), number, random.Random(number).choice([3, 40, 80, 120]))
        self.assertGreater(ways, 2000)

    def test_settings_change_only_the_trace(self):
        for number in range(150):
            code = drawn_taken_code(number)
            contents = drawn_contents(code, number)
            ends = [run_machine(code, contents, drawn_settings(number * 50 + k), 200)[:3] for k in range(6)]
            self.assertEqual(ends, [plain_run(code, contents, 200)] * 6)


if __name__ == "__main__":
    unittest.main()
