"""Places and allocations that fit (points 6.3 and 6.4)."""

import random
import unittest

from sameclock.allocate import allocate, fits
from sameclock.check import typed
from sameclock.ir import is_ir
from sameclock.lower import lower
from code_reference import drawn_allocation, slow_fits
from flows import random_ir, random_jumps, random_labels

ARRAYS = (("pub", 4, "public"), ("sec", 4, "secret"))
PS = ("public", "secret")


def r(k):
    return ("register", k)


def p(s):
    return ("public", s)


def s(s):
    return ("secret", s)


def made(*blocks, params=2):
    program = (ARRAYS, params, blocks)
    assert is_ir(program), program
    return program


class Case(unittest.TestCase):
    def good(self, program, allocation, params=PS):
        self.assertIs(fits(program, params, allocation), True, allocation)
        self.assertIs(slow_fits(program, params, allocation), True, allocation)

    def bad(self, program, allocation, params=PS):
        self.assertIs(fits(program, params, allocation), False, allocation)
        self.assertIs(slow_fits(program, params, allocation), False, allocation)


class TestForm(Case):
    program = made((("op", "+", 2, 0, 0), ("op", "+", 3, 1, 2), ("out", 2), ("stop", 3)))

    def test_good(self):
        self.good(self.program, (r(0), r(1), r(2), r(3)))
        self.good(self.program, (r(11), r(10), r(9), r(8)))
        self.good(self.program, (p(0), s(0), p(1), s(1)))
        self.good(self.program, (p(4095), s(4095), p(7), s(9)))
        self.good(self.program, (r(0), s(0), p(0), r(1)))
        self.good(made((("jump", 0),), params=0), (), ())

    def test_numbers_of_places(self):
        self.bad(self.program, (r(0), r(1), r(2)))
        self.bad(self.program, (r(0), r(1), r(2), r(3), r(4)))
        self.bad(self.program, ())
        self.bad(made((("jump", 0),), params=0), (r(0),), ())
        self.good(made((("jump", 0),), params=1), (r(0),), ("secret",))
        self.bad(made((("jump", 0),), params=1), (), ("secret",))
        self.good(made((("jump", 1),), (("out", 3), ("jump", 1))), (r(0), r(1), r(2), r(3)))

    def test_bounds(self):
        for place, good in ((r(11), True), (r(12), False), (r(-1), False), (p(4095), True), (p(4096), False), (p(-1), False)):
            (self.good if good else self.bad)(self.program, (place, r(1), r(2), r(3)))
        for place, good in ((s(4095), True), (s(4096), False), (s(-1), False)):
            (self.good if good else self.bad)(self.program, (r(0), place, r(2), r(3)))

    def test_places_of_another_form(self):
        for place in (("register", True), ("register", False), ("public", False), ("public", True), ("register",), ("register", 4, 0), ("slot", 4),
                      ("Register", 4), (4, "register"), ("register", None), ("register", "4"), (None, 4), (True, 4), ["register", 4], "register",
                      4, None, True, (), ("",), (("register",), 4), ("register", (4,)), ("", 0)):
            for at in range(4):
                wrong = [r(0), r(1), r(2), r(3)]
                wrong[at] = place
                self.bad(self.program, tuple(wrong))

    def test_values_that_are_no_tuples(self):
        for thing in (None, True, False, 0, 4, "", "four", [r(0), r(1), r(2), r(3)], {0: r(0)}):
            self.bad(self.program, thing)
        self.assertIs(fits(made((("jump", 0),), params=0), (), None), False)
        self.assertIs(fits(made((("jump", 0),), params=0), (), []), False)


class TestFits(Case):
    def test_first_row(self):
        program = made((("op", "+", 4, 0, 1), ("op", "+", 4, 4, 3), ("stop", 4)))
        self.good(program, (r(0), r(1), r(9), r(2), r(3)))
        self.good(program, (r(0), r(1), r(9), r(2), r(1)))
        for places in ((r(0), r(0), r(9), r(2), r(3)), (r(0), r(2), r(9), r(2), r(3)), (r(2), r(1), r(9), r(2), r(3)), (p(0), r(1), r(9), p(0), r(3))):
            self.bad(program, places)
        self.good(program, (p(0), s(0), r(9), p(1), s(0)))

    def test_registers_that_are_not_live_at_the_first_row(self):
        program = made((("const", 2, 5), ("out", 2), ("stop", 0)))
        self.good(program, (r(0), r(0), r(1)))
        self.good(program, (r(0), r(1), r(1)))
        self.bad(program, (r(0), r(1), r(0)))

    def test_written_over_what_is_live(self):
        program = made((("const", 2, 5), ("const", 3, 6), ("op", "+", 2, 2, 3), ("stop", 2)), params=0)
        self.good(program, (r(9), r(9), r(0), r(1)), ())
        self.bad(program, (r(9), r(9), r(0), r(0)), ())
        self.bad(program, (r(9), r(9), p(0), p(0)), ())
        self.good(program, (r(9), r(9), p(0), r(0)), ())

    def test_written_over_what_is_no_more_live(self):
        program = made((("const", 2, 5), ("op", "+", 3, 2, 2), ("stop", 3)), params=0)
        self.good(program, (r(9), r(9), r(0), r(0)), ())
        self.good(program, (p(0), p(0), p(0), p(0)), ())

    def test_register_that_is_written_but_not_live(self):
        program = made((("const", 2, 5), ("stop", 0)))
        self.bad(program, (r(0), r(1), r(0)))
        self.good(program, (r(0), r(1), r(1)))

    def test_behind_the_last_row(self):
        program = made((("const", 3, 1), ("jump", 1)), (("stop", 2),))
        self.bad(program, (r(0), r(1), r(2), r(2)))
        self.good(program, (r(2), r(2), r(2), r(3)))

    def test_around_a_loop(self):
        program = made((("jump", 1),), (("const", 3, 1), ("out", 3), ("branch", 0, 1, 2)), (("stop", 2),))
        self.good(program, (r(0), r(1), r(2), r(3)))
        self.bad(program, (r(0), r(1), r(2), r(2)))
        self.bad(program, (r(3), r(1), r(2), r(3)))

    def test_one_way_of_a_branch(self):
        program = made((("const", 3, 1), ("branch", 0, 1, 2)), (("stop", 3),), (("stop", 4),))
        self.bad(program, (r(0), r(1), r(2), r(4), r(4)))
        self.good(program, (r(0), r(1), r(2), r(3), r(4)))

    def test_rows_that_are_never_come_to(self):
        program = made((("stop", 0),), (("const", 3, 1), ("op", "+", 3, 3, 4), ("stop", 3)))
        self.bad(program, (r(0), r(1), r(2), r(4), r(4)))
        self.good(program, (r(4), r(1), r(2), r(3), r(4)))
        both = made((("stop", 0),), (("op", "+", 3, 3, 4), ("stop", 3)))
        self.good(both, (r(0), r(1), r(2), r(4), r(4)))

    def test_labels(self):
        program = made((("copy", 2, 0), ("copy", 3, 1), ("out", 2), ("stop", 3)))
        self.good(program, (p(0), s(0), p(1), s(1)))
        self.bad(program, (s(2), s(0), p(1), s(1)))
        self.bad(program, (p(0), p(2), p(1), s(1)))
        self.bad(program, (p(0), s(0), s(2), s(1)))
        self.bad(program, (p(0), s(0), p(1), p(2)))
        self.good(program, (p(0), p(1), p(0), p(2)), ("public", "public"))
        self.good(program, (s(0), s(1), s(0), s(2)), ("secret", "secret"))

    def test_param_that_a_secret_is_written_to(self):
        program = made((("out", 0), ("copy", 0, 1), ("stop", 0)))
        self.good(program, (s(0), s(1)))
        self.bad(program, (p(0), s(1)))

    def test_registers_that_are_not_named(self):
        program = made((("stop", 5),))
        for place, good in ((r(0), True), (p(0), True), (p(9), True), (s(0), False)):
            (self.good if good else self.bad)(program, (r(0), r(1), place, r(3), r(4), r(5)))
            (self.good if good else self.bad)(program, (r(0), r(1), r(2), r(3), place, r(5)))

    def test_params_that_are_not_named(self):
        program = made((("jump", 0),), params=3)
        self.good(program, (p(0), s(0), p(0)), ("public", "secret", "public"))
        self.good(program, (r(0), r(0), r(0)), ("public", "secret", "public"))
        self.bad(program, (s(0), s(0), p(0)), ("public", "secret", "public"))
        self.bad(program, (p(0), p(1), p(0)), ("public", "secret", "public"))

    def test_drawn_good(self):
        for number in range(300):
            program = random_ir(number)
            params = random_labels(program, number)
            for kind in ("registers", "slots", "mixed"):
                allocation = drawn_allocation(program, params, number, kind)
                if allocation is not None:
                    self.good(program, allocation, params)

    def test_drawn_with_one_place_changed(self):
        results = []
        for number in range(1200):
            chance = random.Random(number)
            program = random_ir(number)
            params = random_labels(program, number)
            places = list(drawn_allocation(program, params, number, chance.choice(["slots", "mixed"])))
            if places:
                places[chance.randrange(len(places))] = chance.choice(places + [r(0), r(12), p(0), p(4095), p(4096), s(0), s(4096)])
            wanted = slow_fits(program, params, tuple(places))
            results.append(wanted)
            self.assertIs(fits(program, params, tuple(places)), wanted, number)
        self.assertGreater(results.count(True), 100)
        self.assertGreater(results.count(False), 100)


class TestAllocate(Case):
    def allocated(self, program, params):
        allocation = allocate(program, params)
        self.assertIs(type(allocation), tuple)
        self.assertIs(fits(program, params, allocation), True)
        return allocation

    def test_small(self):
        self.assertEqual(self.allocated(made((("jump", 0),), params=0), ()), ())
        self.assertEqual(len(self.allocated(made((("stop", 7),)), PS)), 8)
        self.allocated(made((("stop", 0),)), PS)

    def test_drawn(self):
        for number in range(500):
            for program in (random_ir(number), random_ir(number, 12, 3), random_jumps(number)):
                params = random_labels(program, number)
                self.good(program, self.allocated(program, params), params)

    def test_twelve_live_registers(self):
        for count in (11, 12, 13, 14, 40):
            rows = tuple(("load", k, k & 1, 0) for k in range(1, count)) + tuple(("op", "+", 0, 0, k) for k in range(1, count))
            self.good(made(rows + (("stop", 0),), params=1), self.allocated(made(rows + (("stop", 0),), params=1), ("public",)), ("public",))

    def test_many_live_params(self):
        for count in (12, 13, 900):
            params = tuple(PS[k % 3 == 0] for k in range(count))
            rows = tuple(("store", 1, 0, k) for k in range(count))
            allocation = self.allocated(made(rows + (("stop", 0),), params=count), params)
            self.assertEqual(len(set(allocation)), count)

    def test_very_many_live_registers(self):
        # So many secret registers, so many public ones, and the address, which is public, too.
        for many, others in ((2000, 0), (0, 2000), (4108, 0), (0, 4107), (4096, 4107), (4108, 4095), (4100, 4103), (4104, 4099)):
            count = many + others
            rows = tuple(("load", k, int(k < many), count) for k in range(count))
            rows += tuple(("store", int(k < many), count, k) for k in range(count)) + (("stop", count),)
            allocation = self.allocated((ARRAYS, 0, (rows,)), ())
            self.assertEqual(len(set(allocation)), count + 1)

    def test_many_registers_that_are_live_for_a_short_time(self):
        rows = []
        for k in range(6000):
            rows += [("load", k, 1, 6000), ("store", 1, 6000, k)]
        self.allocated((ARRAYS, 0, (tuple(rows) + (("stop", 6000),),)), ())

    def test_slots_are_used_again(self):
        # In each round 100 registers are live at a time; all of them together are more than there are slots of a label.
        for array in (0, 1):
            rows = []
            for turn in range(60):
                rows += [("load", 100 * turn + k, array, 6000) for k in range(100)]
                rows += [("store", array, 6000, 100 * turn + k) for k in range(100)]
            allocation = self.allocated((ARRAYS, 0, (tuple(rows) + (("stop", 6000),),)), ())
            self.assertLess(len(set(allocation)), 4096)

    def test_blocks_in_another_order(self):
        chance = random.Random(5)
        count = 5000
        order = [0] + chance.sample(range(1, count), count - 1)
        blocks = [None] * count
        for k in range(count):
            end = ("jump", order[k + 1]) if k + 1 < count else ("stop", count - 1)
            blocks[order[k]] = (("load", k + 1, 1, 0), ("store", 1, 0, k), end)
        self.allocated((ARRAYS, 1, tuple(blocks)), ("public",))

    def test_lowered(self):
        text = "secret array k[9]; main(secret s, public n) { " + " ".join(f"secret x{k} = s * {k};" for k in range(60)) + \
            " for i to n max 9 { if s { k[i] = x3; } else { k[s] = " + " + ".join(f"x{k}" for k in range(30)) + "; } } return " + \
            " + ".join(f"x{k} div {k}" for k in range(30)) + "; }"
        self.allocated(lower(typed(text)), ("secret", "public"))

    def test_arguments_stay(self):
        program = random_ir(12)
        allocation = allocate(program, random_labels(program, 1))
        fits(program, random_labels(program, 1), allocation)
        self.assertEqual(program, random_ir(12))
        self.assertEqual(allocate(program, random_labels(program, 1)), allocation)


if __name__ == "__main__":
    unittest.main()
