"""Papers (points 7.1 to 7.3, and 7.5)."""

import random
import unittest

from sameclock.code_form import is_code
from sameclock.ir import SIGNS
from sameclock.papers import greatest_paper, holds, public_behind, ways
from code_reference import drawn_code, slow_behind, slow_paper, slow_ways

STOP = ("stop", 0)
EVERY = tuple(range(16))
REGIONS = ((0, 4, "public"), (4, 4, "secret"), (8, 16, "public"), (24, 1, "public"))


def made(*rows, regions=REGIONS):
    code = (regions, rows)
    assert is_code(code), code
    return code


class TestPublicBehind(unittest.TestCase):
    def behind(self, row, member, wanted):
        code = made(row, STOP)
        self.assertEqual(public_behind(code, 0, member), wanted)
        self.assertEqual(slow_behind(code, 0, member), wanted)

    def test_const(self):
        self.behind(("const", 3, 5), (), (3,))
        self.behind(("const", 3, 5), (1, 3, 7), (1, 3, 7))
        self.behind(("const", 3, 5), (1, 7), (1, 3, 7))

    def test_ops(self):
        for sign in SIGNS:
            self.behind(("op", sign, 3, 1, 2), (1, 2), (1, 2, 3))
            self.behind(("op", sign, 3, 1, 2), (1, 3), (1,))
            self.behind(("op", sign, 3, 1, 2), (2, 3), (2,))
            self.behind(("op", sign, 3, 1, 2), (), ())
            self.behind(("op", sign, 3, 3, 3), (3,), (3,))
            self.behind(("op", sign, 3, 3, 2), (2,), (2,))
            self.behind(("op", sign, 0, 15, 15), (15,), (0, 15))

    def test_selects(self):
        self.behind(("select", 4, 1, 2, 3), (1, 2, 3), (1, 2, 3, 4))
        for member in ((1, 2), (1, 3), (2, 3)):
            self.behind(("select", 4, 1, 2, 3), member, member)
            self.behind(("select", 4, 1, 2, 3), member + (4,), member)
        self.behind(("select", 4, 4, 4, 4), (4, 5), (4, 5))

    def test_loads(self):
        for base, mask, public in ((0, 0, True), (0, 3, True), (1, 3, False), (3, 0, True), (3, 1, False), (4, 0, False), (4, 3, False), (2, 3, False), (7, 1, False),
                                   (8, 15, True), (9, 15, False), (8, 31, False), (16, 7, True), (23, 0, True), (23, 1, False), (24, 0, True), (24, 1, False), (25, 0, False),
                                   (500000, 0, False), (500000, 4095, False), (0, 4095, False)):
            for member in ((), (1,), (2,), (1, 2)):
                kept = tuple(a for a in member if a != 2)
                self.behind(("load", 2, 1, base, mask), member, kept + (2,) if public else kept)

    def test_loads_without_regions(self):
        code = made(("load", 2, 1, 0, 0), STOP, regions=())
        self.assertEqual(public_behind(code, 0, EVERY), EVERY[:2] + EVERY[3:])

    def test_rows_that_write_nothing(self):
        for row in (("store", 1, 0, 0, 2), ("out", 1), ("jump", 0), ("branch", 1, 0), ("stop", 1)):
            for member in ((), (2,), (1, 5), EVERY):
                self.behind(row, member, member)

    def test_other_rows_of_code(self):
        code = made(("const", 1, 1), ("op", "+", 2, 3, 3), STOP)
        self.assertEqual(public_behind(code, 1, (1, 2)), (1,))
        self.assertEqual(public_behind(code, 2, (1, 2)), (1, 2))

    def test_many_regions(self):
        regions = tuple((3 * k, 3, ("public", "secret")[k % 2]) for k in range(1000))
        for k in range(0, 1000, 7):
            for base, mask, public in ((3 * k, 0, True), (3 * k + 2, 0, True), (3 * k + 2, 1, False), (3 * k + 1, 1, True), (3 * k, 3, False)):
                code = made(("load", 2, 1, base, mask), STOP, regions=regions)
                self.assertEqual(public_behind(code, 0, ()), (2,) if public and k % 2 == 0 else ())


class TestWays(unittest.TestCase):
    def test_each_kind(self):
        rows = (("const", 1, 1), ("op", "+", 1, 1, 1), ("select", 1, 1, 1, 1), ("load", 1, 1, 0, 0), ("store", 1, 0, 0, 1), ("out", 1), ("jump", 2), ("branch", 1, 3),
                ("branch", 1, 9), ("branch", 1, 9), ("branch", 1, 10), ("jump", 11), ("stop", 1), ("jump", 13), ("jump", 0))
        code = made(*rows)
        wanted = ((1,), (2,), (3,), (4,), (5,), (6,), (2,), (3, 8), (9,), (9, 10), (10, 11), (11,), (), (13,), (0,))
        for r, found in enumerate(wanted):
            self.assertEqual(ways(code, r), found)


class TestHolds(unittest.TestCase):
    code = made(("load", 1, 0, 4, 0), ("branch", 2, 4), ("op", "+", 3, 1, 2), ("jump", 1), ("select", 4, 3, 3, 3), STOP)

    def good(self, paper, code=None):
        self.assertIs(holds(code or self.code, paper), True, paper)

    def bad(self, paper, code=None):
        self.assertIs(holds(code or self.code, paper), False, paper)

    def test_none(self):
        self.good(((),) * 6)

    def test_greatest(self):
        without = tuple(a for a in EVERY if a not in (1, 3))
        greatest = (EVERY, without, without, without, without, tuple(a for a in without if a != 4))
        self.good(greatest)
        self.assertEqual(greatest_paper(self.code), greatest)
        for r in range(1, 6):
            for a in (1, 3) + ((4,) if r == 5 else ()):
                self.bad(greatest[:r] + (tuple(sorted(greatest[r] + (a,))),) + greatest[r + 1:])

    def test_smaller_ones(self):
        self.bad(((), (2,), (2,), (2,), (2,), (2,)))
        self.good(((2,), (2,), (2,), (2,), (2,), (2,)))
        self.bad(((2,), (2,), (2,), (), (2,), (2,)))
        self.bad(((2,), (2,), (), (2,), (2,), (2,)))
        self.good(((2, 5), (2,), (2,), (2,), (), ()))
        self.bad(((2, 5), (2,), (2,), (2,), (), (2,)))

    def test_const_makes_public(self):
        code = made(("const", 1, 5), STOP)
        self.good(((), (1,)), code)
        self.bad(((), (2,)), code)
        self.good(((2,), (1, 2)), code)

    def test_first_row_has_no_bounds(self):
        self.good(((5, 9),), made(STOP))
        self.good((EVERY,), made(STOP))
        self.good((EVERY,), made(("jump", 0)))

    def test_form(self):
        code = made(("out", 1), STOP)
        self.good(((), ()), code)
        self.good(((0, 15), (0, 15)), code)
        for paper in (((1, 0), ()), ((0, 0), ()), ((0, 1, 1), ()), ((2, 3, 1), ()), ((16,), ()), ((-1,), ()), ((0, 16), ()), ((True,), ()), ((False, 1), ()), ((0, True), ()),
                      ((None,), ()), (("1",), ()), (((1,),), ()), ([1], ()), (None, ()), (1, ()), (True, ()), ("", ()), ((), ()[:0], ()), ((),), (), ((), (), ()),
                      None, True, False, 0, 2, "", "ab", [(), ()], {0: (), 1: ()}, ((), []), ((), None), ((), 5)):
            self.bad(paper, code)

    def test_rows_that_are_never_come_to_count(self):
        code = made(STOP, ("op", "+", 1, 2, 3), ("jump", 1))
        self.bad(((), (1,), (1,)), code)
        self.good(((), (1, 2, 3), (1, 2, 3)), code)
        self.bad(((), (2,), ()), code)
        self.bad(((), (), (5,)), code)
        self.good(((5,), (), ()), code)

    def test_branch_to_the_next_row(self):
        code = made(("branch", 1, 1), STOP)
        self.good(((1,), (1,)), code)
        self.bad(((1,), (2,)), code)

    def test_arguments_stay(self):
        paper = ((1,), (1,))
        code = made(("branch", 1, 1), STOP)
        holds(code, paper)
        greatest_paper(code)
        self.assertEqual((paper, code), (((1,), (1,)), (REGIONS, (("branch", 1, 1), STOP))))

    def test_drawn(self):
        held = 0
        for number in range(3000):
            chance = random.Random(number)
            code = drawn_code(number, most_rows=5, count=4)
            paper = tuple(tuple(sorted(chance.sample(range(4), chance.choice([0, 1, 4])))) for _ in code[1])
            wanted = all(set(paper[way]) <= set(slow_behind(code, r, paper[r])) for r in range(len(code[1])) for way in slow_ways(code, r))
            self.assertIs(holds(code, paper), wanted)
            held += wanted
            for r, member in enumerate(paper):
                self.assertEqual(public_behind(code, r, member), slow_behind(code, r, member))
                self.assertEqual(ways(code, r), tuple(slow_ways(code, r)))
        self.assertGreater(held, 200)


class TestGreatest(unittest.TestCase):
    def test_loops(self):
        code = made(("op", "+", 1, 1, 2), ("load", 3, 1, 4, 0), ("op", "+", 2, 2, 3), ("branch", 5, 0), STOP)
        last = tuple(a for a in EVERY if a not in (1, 2, 3))
        self.assertEqual(greatest_paper(code), (last, last, last, last, last))

    def test_loop_that_stays_public(self):
        code = made(("op", "+", 1, 1, 2), ("load", 3, 1, 0, 3), ("branch", 1, 0), STOP)
        self.assertEqual(greatest_paper(code), (EVERY,) * 4)

    def test_made_public_again(self):
        code = made(("load", 3, 1, 4, 3), ("out", 1), ("const", 3, 1), ("load", 4, 3, 4, 3), ("load", 4, 4, 8, 15), STOP)
        no_3, no_4 = (tuple(a for a in EVERY if a != k) for k in (3, 4))
        self.assertEqual(greatest_paper(code), (EVERY, no_3, no_3, EVERY, no_4, EVERY))

    def test_rows_that_are_never_come_to_count(self):
        code = made(("jump", 3), ("load", 3, 1, 4, 3), ("jump", 3), STOP)
        self.assertEqual(greatest_paper(code), (EVERY, EVERY, tuple(a for a in EVERY if a != 3), tuple(a for a in EVERY if a != 3)))

    def test_long(self):
        count = 20000
        rows = tuple(("branch", 1, (k * 7919) % count) for k in range(count - 2)) + (("load", 2, 1, 4, 0), ("jump", 0))
        no_2 = tuple(a for a in EVERY if a != 2)
        self.assertEqual(set(greatest_paper(made(*rows))), {no_2})

    def test_drawn(self):
        for number in range(1500):
            code = drawn_code(number)
            greatest = greatest_paper(code)
            self.assertEqual(greatest, slow_paper(code))
            self.assertIs(holds(code, greatest), True)

    def test_has_what_any_paper_that_holds_has(self):
        held = 0
        for number in range(400):
            code = drawn_code(number, most_rows=4, count=4)
            greatest = greatest_paper(code)
            chance = random.Random(number)
            for _ in range(20):
                paper = tuple(tuple(sorted(chance.sample(range(4), chance.choice([0, 1, 2, 4])))) for _ in code[1])
                if holds(code, paper):
                    held += 1
                    for member, most in zip(paper, greatest):
                        self.assertLessEqual(set(member), set(most))
        self.assertGreater(held, 300)


if __name__ == "__main__":
    unittest.main()
