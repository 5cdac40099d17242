"""Common values (point 5.7)."""

import unittest

from sameclock.ir import SIGNS, is_ir
from sameclock.passes import common
from flows import random_ir
from pass_reference import slow_common

ARRAYS = (("pub", 4, "public"), ("sec", 4, "secret"))
VALUES = [(lambda d: ("op", "+", d, 0, 1)), (lambda d: ("select", d, 0, 1, 2)), (lambda d: ("load", d, 1, 0))]


class TestCommon(unittest.TestCase):
    def shared(self, program, *blocks):
        self.assertTrue(is_ir(program))
        self.assertEqual(common(program), program[:2] + (blocks,))
        self.assertEqual(slow_common(program), program[:2] + (blocks,))

    def rows(self, rows, wanted, end=("stop", 0)):
        self.shared((ARRAYS, 3, (tuple(rows) + (end,),)), tuple(wanted) + (end,))

    def last(self, wanted, *rows):
        """What the last one of some rows becomes; the others stay."""
        self.rows(rows, rows[:-1] + (wanted,))

    def test_again(self):
        for value in VALUES:
            self.last(("copy", 6, 5), value(5), value(6))
            self.rows([value(5), value(6), value(7)], [value(5), ("copy", 6, 5), ("copy", 7, 5)])
            self.rows([value(5), value(6), value(6)], [value(5), ("copy", 6, 5), ("copy", 6, 5)])

    def test_all_signs(self):
        for sign in SIGNS:
            self.last(("copy", 6, 5), ("op", sign, 5, 0, 1), ("op", sign, 6, 0, 1))

    def test_other_values(self):
        for first, second in ((("op", "+", 5, 0, 1), ("op", "+", 6, 1, 0)), (("op", "+", 5, 0, 1), ("op", "-", 6, 0, 1)),
                              (("op", "+", 5, 0, 1), ("op", "+", 6, 0, 2)), (("select", 5, 0, 1, 2), ("select", 6, 0, 2, 1)),
                              (("select", 5, 0, 1, 2), ("select", 6, 1, 1, 2)), (("load", 5, 0, 1), ("load", 6, 1, 1)),
                              (("load", 5, 0, 1), ("load", 6, 0, 2)), (("load", 5, 1, 0), ("load", 6, 0, 1))):
            self.last(second, first, second)

    def test_consts_and_copies_are_no_values(self):
        self.last(("const", 6, 1), ("const", 5, 1), ("const", 6, 1))
        self.last(("copy", 6, 1), ("copy", 5, 1), ("copy", 6, 1))

    def test_write_to_what_it_reads(self):
        self.last(("op", "+", 6, 0, 1), ("op", "+", 5, 0, 1), ("const", 0, 1), ("op", "+", 6, 0, 1))
        self.last(("op", "+", 6, 0, 1), ("op", "+", 5, 0, 1), ("copy", 1, 1), ("op", "+", 6, 0, 1))
        for register in (0, 1, 2):
            self.last(("select", 6, 0, 1, 2), ("select", 5, 0, 1, 2), ("load", register, 0, 0), ("select", 6, 0, 1, 2))
        self.last(("load", 6, 1, 0), ("load", 5, 1, 0), ("op", "+", 0, 1, 1), ("load", 6, 1, 0))
        self.last(("copy", 6, 5), ("load", 5, 1, 0), ("const", 1, 0), ("load", 6, 1, 0))
        self.last(("load", 6, 1, 0), ("load", 5, 1, 0), ("select", 0, 0, 1, 1), ("load", 6, 1, 0))

    def test_write_to_what_a_copy_reads(self):
        self.rows([("op", "+", 5, 0, 1), ("op", "+", 0, 0, 1), ("op", "+", 6, 0, 1)],
                  [("op", "+", 5, 0, 1), ("copy", 0, 5), ("op", "+", 6, 0, 1)])

    def test_write_to_its_register(self):
        for value in VALUES:
            self.last(value(6), value(5), ("const", 5, 1), value(6))
            self.rows([value(5), value(6), ("const", 5, 1)], [value(5), value(6), ("const", 5, 1)])
            self.rows([value(5), value(5)], [value(5), value(5)])

    def test_register_that_another_block_writes(self):
        value = VALUES[0]
        self.shared((ARRAYS, 3, ((value(5), value(6), ("stop", 0)), (("const", 5, 1), ("stop", 0)))),
                    (value(5), value(6), ("stop", 0)), (("const", 5, 1), ("stop", 0)))

    def test_next_one_with_the_value_is_noted(self):
        value = VALUES[0]
        self.rows([value(5), value(6), value(7), ("const", 5, 1)], [value(5), value(6), ("copy", 7, 6), ("const", 5, 1)])

    def test_register_that_is_a_param(self):
        self.last(("op", "+", 6, 0, 1), ("op", "+", 2, 0, 1), ("op", "+", 6, 0, 1))
        self.last(("copy", 2, 6), ("op", "+", 6, 0, 1), ("op", "+", 2, 0, 1))

    def test_row_that_reads_what_it_writes(self):
        self.last(("op", "+", 6, 5, 1), ("op", "+", 5, 5, 1), ("op", "+", 6, 5, 1))
        self.last(("select", 6, 0, 1, 5), ("select", 5, 0, 1, 5), ("select", 6, 0, 1, 5))
        self.last(("load", 6, 0, 5), ("load", 5, 0, 5), ("load", 6, 0, 5))
        self.rows([("op", "+", 6, 5, 1), ("op", "+", 5, 5, 1), ("out", 5)], [("op", "+", 6, 5, 1), ("copy", 5, 6), ("out", 5)])

    def test_stores(self):
        for array in (0, 1):
            load = lambda d: ("load", d, array, 0)
            self.last(load(6), load(5), ("store", array, 1, 2), load(6))
            self.last(("copy", 6, 5), load(5), ("store", 1 - array, 1, 2), load(6))
            self.last(("copy", 6, 5), ("store", array, 1, 2), load(5), load(6))
        self.last(("copy", 6, 5), ("op", "+", 5, 0, 1), ("store", 0, 1, 2), ("op", "+", 6, 0, 1))
        self.last(("copy", 6, 5), ("select", 5, 0, 1, 1), ("store", 0, 1, 2), ("select", 6, 0, 1, 1))
        self.last(("load", 7, 0, 0), ("load", 5, 0, 0), ("store", 0, 1, 2), ("load", 6, 0, 0), ("store", 0, 0, 0), ("load", 7, 0, 0))

    def test_loads_behind_a_store_are_noted_again(self):
        self.last(("copy", 7, 6), ("load", 5, 0, 0), ("store", 0, 1, 2), ("load", 6, 0, 0), ("load", 7, 0, 0))

    def test_blocks_are_apart(self):
        value = VALUES[1]
        self.shared((ARRAYS, 3, ((value(5), ("jump", 1)), (value(6), ("stop", 0)))), (value(5), ("jump", 1)), (value(6), ("stop", 0)))

    def test_block_that_cannot_be_come_to(self):
        value = VALUES[2]
        self.shared((ARRAYS, 3, ((("stop", 0),), (value(5), value(6), ("jump", 1)))), (("stop", 0),), (value(5), ("copy", 6, 5), ("jump", 1)))

    def test_row_that_has_become_a_copy(self):
        value = VALUES[0]
        self.rows([value(5), value(6), ("op", "-", 7, 6, 6), ("op", "-", 8, 5, 5), ("op", "-", 9, 6, 6)],
                  [value(5), ("copy", 6, 5), ("op", "-", 7, 6, 6), ("op", "-", 8, 5, 5), ("copy", 9, 7)])

    def test_copy_ends_what_reads_its_register(self):
        value = VALUES[0]
        self.rows([value(5), ("op", "-", 7, 6, 6), value(6), ("op", "-", 8, 6, 6)],
                  [value(5), ("op", "-", 7, 6, 6), ("copy", 6, 5), ("op", "-", 8, 6, 6)])

    def test_arguments_stay(self):
        program = (ARRAYS, 3, ((("op", "+", 5, 0, 1), ("op", "+", 6, 0, 1), ("stop", 0)),))
        again = (ARRAYS, 3, ((("op", "+", 5, 0, 1), ("op", "+", 6, 0, 1), ("stop", 0)),))
        common(program)
        self.assertEqual(program, again)

    def test_drawn(self):
        for number in range(800):
            program = random_ir(number, most_rows=10, most_blocks=4)
            self.assertEqual(common(program), slow_common(program), number)


if __name__ == "__main__":
    unittest.main()
