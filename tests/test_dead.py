"""Needed registers and the pass dead (point 5.8)."""

import unittest

from sameclock.ir import is_ir
from sameclock.passes import dead, needed_at
from flows import random_ir
from pass_reference import slow_dead, slow_needed_at

ARRAYS = (("pub", 4, "public"), ("sec", 4, "secret"))


def made(*blocks, params=2):
    program = (ARRAYS, params, blocks)
    assert is_ir(program), program
    return program


class TestNeeded(unittest.TestCase):
    def needed(self, program, *wanted):
        self.assertEqual(needed_at(program), list(wanted))
        self.assertEqual(slow_needed_at(program), list(wanted))

    def test_rows_that_are_always_done(self):
        self.needed(made((("stop", 5),)), (5,))
        self.needed(made((("out", 7), ("stop", 5))), (5, 7))
        self.needed(made((("store", 0, 7, 6), ("stop", 5))), (5, 6, 7))
        self.needed(made((("branch", 4, 1, 1),), (("stop", 5),)), (4, 5), (5,))
        self.needed(made((("jump", 0),)), ())

    def test_rows_that_write(self):
        for row, read in ((("const", 2, 9), ()), (("copy", 2, 9), (9,)), (("op", "+", 2, 8, 9), (8, 9)),
                          (("op", "-", 2, 2, 9), (2, 9)), (("select", 2, 7, 9, 8), (7, 8, 9)), (("load", 2, 0, 9), (9,))):
            self.needed(made((row, ("stop", 2))), read)
            self.needed(made((row, ("stop", 1))), (1,))
            self.needed(made((row, ("out", 2), ("stop", 1))), tuple(sorted(read + (1,))))

    def test_written_in_between(self):
        self.needed(made((("copy", 2, 5), ("const", 5, 1), ("out", 5), ("stop", 2))), (5,))
        self.needed(made((("const", 5, 1), ("copy", 2, 5), ("stop", 2))), ())

    def test_ways(self):
        program = made((("branch", 0, 1, 2),), (("copy", 5, 6), ("jump", 3)), (("out", 7), ("jump", 3)), (("stop", 5),))
        self.needed(program, (0, 5, 6, 7), (6,), (5, 7), (5,))

    def test_loops(self):
        self.needed(made((("jump", 1),), (("op", "+", 3, 3, 4), ("branch", 0, 1, 2)), (("stop", 0),)), (0,), (0,), (0,))
        self.needed(made((("jump", 1),), (("op", "+", 3, 3, 4), ("branch", 0, 1, 2)), (("stop", 3),)), (0, 3, 4), (0, 3, 4), (3,))

    def test_need_that_goes_around(self):
        program = made((("jump", 1),), (("copy", 3, 4), ("copy", 4, 5), ("copy", 5, 6), ("branch", 0, 1, 2)), (("stop", 3),))
        self.needed(program, (0, 4, 5, 6), (0, 4, 5, 6), (3,))

    def test_blocks_that_cannot_be_come_to(self):
        self.needed(made((("stop", 0),), (("out", 5), ("jump", 0))), (0,), (0, 5))

    def test_results_are_the_callers(self):
        program = made((("stop", 5),))
        needed_at(program).append(())
        self.needed(program, (5,))

    def test_drawn(self):
        for number in range(800):
            program = random_ir(number)
            self.assertEqual(needed_at(program), slow_needed_at(program), number)


class TestDead(unittest.TestCase):
    def left(self, program, *blocks):
        self.assertEqual(dead(program), program[:2] + (blocks,))
        self.assertEqual(slow_dead(program), program[:2] + (blocks,))

    def test_each_kind_of_row(self):
        for row in (("const", 2, 9), ("copy", 2, 9), ("op", "div", 2, 8, 9), ("select", 2, 7, 9, 8), ("load", 2, 0, 9), ("load", 2, 1, 2)):
            self.left(made((row, ("stop", 1))), (("stop", 1),))
            self.left(made((row, ("stop", 2))), (row, ("stop", 2)))
            self.left(made((row, ("const", 2, 1), ("stop", 2))), (("const", 2, 1), ("stop", 2)))
        for row in (("store", 0, 8, 9), ("store", 1, 9, 9), ("out", 9)):
            self.left(made((row, ("stop", 1))), (row, ("stop", 1)))

    def test_rows_that_only_feed_rows_that_are_left_out(self):
        self.left(made((("load", 4, 0, 0), ("op", "+", 5, 4, 4), ("copy", 6, 5), ("copy", 0, 6), ("stop", 1))), (("stop", 1),))
        self.left(made((("copy", 4, 5), ("copy", 5, 4), ("branch", 0, 0, 1)), (("stop", 0),)), (("branch", 0, 0, 1),), (("stop", 0),))
        self.left(made((("op", "+", 4, 4, 5), ("branch", 0, 0, 1)), (("stop", 0),)), (("branch", 0, 0, 1),), (("stop", 0),))

    def test_rows_that_feed_the_next_round(self):
        rows = (("copy", 3, 4), ("copy", 4, 5), ("copy", 5, 6), ("branch", 0, 1, 2))
        self.left(made((("const", 6, 1), ("jump", 1)), rows, (("stop", 3),)), (("const", 6, 1), ("jump", 1)), rows, (("stop", 3),))
        self.left(made((("const", 6, 1), ("jump", 1)), rows, (("stop", 5),)),
                  (("const", 6, 1), ("jump", 1)), (("copy", 5, 6), ("branch", 0, 1, 2)), (("stop", 5),))

    def test_both_ways_of_a_branch(self):
        rows = (("const", 4, 1), ("const", 5, 2), ("const", 6, 3), ("branch", 0, 1, 2))
        self.left(made(rows, (("stop", 4),), (("stop", 6),)), (rows[0], rows[2], rows[3]), (("stop", 4),), (("stop", 6),))

    def test_blocks_that_cannot_be_come_to(self):
        self.left(made((("const", 5, 1), ("stop", 0)), (("const", 4, 1), ("copy", 5, 6), ("out", 5), ("jump", 0))),
                  (("stop", 0),), (("copy", 5, 6), ("out", 5), ("jump", 0)))

    def test_endless(self):
        self.left(made((("const", 5, 1), ("jump", 0))), (("jump", 0),))

    def test_arguments_stay(self):
        program = made((("const", 4, 1), ("stop", 0)))
        again = made((("const", 4, 1), ("stop", 0)))
        dead(program)
        self.assertEqual(program, again)

    def test_long(self):
        rows = tuple(("op", "+", k + 1, k, k) for k in range(5000))
        self.assertEqual(dead(made(rows + (("stop", 0),)))[2], ((("stop", 0),),))
        self.assertEqual(dead(made(rows + (("stop", 5000),)))[2], (rows + (("stop", 5000),),))

    def test_drawn(self):
        for number in range(800):
            program = random_ir(number)
            self.assertEqual(dead(program), slow_dead(program), number)


if __name__ == "__main__":
    unittest.main()
