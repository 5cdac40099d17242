"""Known numbers and folding (points 5.2 to 5.4)."""

import unittest

from sameclock.ir import SIGNS, apply, is_ir
from sameclock.known import known_numbers
from sameclock.passes import fold
from flows import random_ir, random_jumps
from pass_reference import slow_fold, slow_known

ARRAYS = (("pub", 4, "public"), ("sec", 4, "secret"))
TOP = 2 ** 32 - 1


def made(*blocks, params=2):
    program = (ARRAYS, params, blocks)
    assert is_ir(program), program
    return program


def behind(*rows, params=2):
    """A program whose second block stands behind these rows, which are the first one."""
    return made(rows + (("jump", 1),), (("stop", 0),), params=params)


class Case(unittest.TestCase):
    def known(self, program, *wanted):
        self.assertEqual(known_numbers(program), list(wanted))
        self.assertEqual(slow_known(program), list(wanted))

    def writes(self, number, *rows, params=2):
        """The last one of these rows writes this number, or one that is not known."""
        written = rows[-1][2 if rows[-1][0] == "op" else 1]
        program = behind(*rows, params=params)
        self.assertEqual(known_numbers(program)[1].get(written), number, rows)
        self.assertEqual(known_numbers(program), slow_known(program))
        wanted = rows[-1] if number is None else ("const", written, number)
        found = fold(program)[2][0][-2]
        if number is not None or rows[-1][0] in ("copy", "load"):
            self.assertEqual(found, wanted)
        self.assertEqual(fold(program), slow_fold(program))


class TestKnown(Case):
    def test_beginning(self):
        self.known(made((("stop", 5),)), {5: 0})
        self.known(made((("stop", 1),)), {})
        self.known(made((("op", "+", 7, 3, 1), ("store", 0, 4, 2), ("stop", 9)), params=3), {3: 0, 4: 0, 7: 0, 9: 0})
        self.known(made((("jump", 0),), params=0), {})

    def test_params_that_no_row_names(self):
        self.known(behind(("const", 3, 4), params=5), {}, {3: 4})
        self.known(behind(("const", 1, 4), params=3), {}, {1: 4})

    def test_const(self):
        self.writes(7, ("const", 3, 7))
        self.writes(TOP, ("const", 0, TOP))
        self.writes(0, ("const", 1, 0))

    def test_copy(self):
        self.writes(0, ("copy", 3, 4))
        self.writes(None, ("copy", 3, 0))
        self.writes(7, ("const", 2, 7), ("copy", 1, 2))
        self.writes(7, ("const", 2, 7), ("copy", 2, 2))
        self.writes(None, ("const", 2, 7), ("copy", 2, 0), ("copy", 3, 2))

    def test_ops(self):
        for sign in SIGNS:
            for a, b in ((6, 3), (3, 6), (5, 0), (0, 5), (TOP, 33), (0, 0), (1, TOP)):
                self.writes(apply(sign, a, b), ("const", 2, a), ("const", 3, b), ("op", sign, 4, 2, 3))

    def test_ops_with_one_known_operand(self):
        for sign in SIGNS:
            for number in (0, 1, TOP):
                zero = 0 if number == 0 and sign in ("&", "*") else None
                self.writes(zero, ("const", 2, number), ("op", sign, 4, 2, 0))
                self.writes(zero, ("const", 2, number), ("op", sign, 4, 0, 2))
                self.writes(zero, ("const", 2, number), ("op", sign, 2, 0, 2))
            self.writes(None, ("op", sign, 4, 0, 1))
            self.writes(None, ("op", sign, 4, 0, 0))

    def test_selects(self):
        start = (("const", 2, 7), ("const", 3, 8), ("const", 4, 1), ("const", 5, TOP), ("const", 6, 7))
        self.writes(7, *start, ("select", 9, 4, 2, 3))
        self.writes(7, *start, ("select", 9, 5, 2, 3))
        self.writes(8, *start, ("select", 9, 8, 2, 3))
        self.writes(7, *start, ("select", 9, 4, 2, 0))
        self.writes(None, *start, ("select", 9, 4, 0, 2))
        self.writes(8, *start, ("select", 9, 8, 0, 3))
        self.writes(None, *start, ("select", 9, 8, 2, 0))
        self.writes(None, *start, ("select", 9, 0, 2, 3))
        self.writes(7, *start, ("select", 9, 0, 2, 2))
        self.writes(7, *start, ("select", 9, 0, 2, 6))
        self.writes(7, *start, ("select", 9, 0, 6, 2))
        self.writes(None, *start, ("select", 9, 0, 1, 1))
        self.writes(None, *start, ("select", 9, 0, 1, 2))

    def test_loads(self):
        self.writes(None, ("load", 3, 0, 4))
        self.writes(None, ("const", 3, 1), ("load", 3, 1, 3))

    def test_rows_that_write_nothing(self):
        self.known(behind(("const", 3, 1), ("store", 0, 3, 4), ("out", 3)), {3: 0, 4: 0}, {3: 1, 4: 0})

    def test_branches(self):
        for number, wanted in ((0, [{2: 0}, None, {2: 0}]), (5, [{2: 0}, {2: 5}, None])):
            self.known(made((("const", 2, number), ("branch", 2, 1, 2)), (("stop", 0),), (("stop", 0),)), *wanted)
        self.known(made((("branch", 0, 1, 2),), (("stop", 0),), (("stop", 0),)), {}, {}, {})
        self.known(made((("branch", 2, 1, 1),), (("const", 2, 4), ("jump", 2)), (("stop", 0),)), {2: 0}, {2: 0}, {2: 4})

    def test_two_ways(self):
        def program(a, b):
            return made((("branch", 0, 1, 2),), (("const", 2, a), ("jump", 3)), (("const", 2, b), ("jump", 3)), (("stop", 2),))
        self.known(program(4, 4), {2: 0}, {2: 0}, {2: 0}, {2: 4})
        self.known(program(4, 5), {2: 0}, {2: 0}, {2: 0}, {})
        self.known(program(0, 5), {2: 0}, {2: 0}, {2: 0}, {})

    def test_way_that_is_not_gone_does_not_count(self):
        self.known(made((("branch", 3, 1, 2),), (("const", 2, 4), ("jump", 2)), (("stop", 2),)), {2: 0, 3: 0}, None, {2: 0, 3: 0})

    def test_param_known_later(self):
        self.known(made((("const", 0, 3), ("jump", 1)), (("stop", 0),), params=1), {}, {0: 3})

    def test_back_to_the_beginning(self):
        self.known(made((("const", 2, 4), ("branch", 0, 0, 1)), (("stop", 2),)), {}, {2: 4})
        self.known(made((("op", "*", 2, 2, 3), ("branch", 0, 0, 1)), (("stop", 2),)), {2: 0, 3: 0}, {2: 0, 3: 0})
        self.known(made((("const", 0, 4), ("jump", 0)), params=1), {})

    def test_loops(self):
        self.known(made((("const", 2, 4), ("const", 3, 1), ("jump", 1)), (("op", "*", 2, 2, 3), ("branch", 0, 1, 2)), (("stop", 2),)),
                   {2: 0, 3: 0}, {2: 4, 3: 1}, {2: 4, 3: 1})
        self.known(made((("const", 2, 4), ("const", 3, 1), ("jump", 1)), (("op", "+", 2, 2, 3), ("branch", 0, 1, 2)), (("stop", 2),)),
                   {2: 0, 3: 0}, {3: 1}, {3: 1})

    def test_loop_whose_second_round_goes_another_way(self):
        self.known(made((("branch", 2, 1, 2),), (("stop", 0),), (("const", 2, 1), ("jump", 0))), {}, {}, {})

    def test_loop_that_keeps_a_way_shut(self):
        self.known(made((("jump", 1),), (("branch", 2, 2, 3),), (("const", 2, 1), ("jump", 1)), (("branch", 0, 1, 4),), (("stop", 0),)),
                   {2: 0}, {2: 0}, None, {2: 0}, {2: 0})

    def test_numbers_that_hold_each_other(self):
        self.known(made((("jump", 1),), (("copy", 2, 3), ("copy", 3, 2), ("branch", 0, 1, 2)), (("stop", 2),)),
                   {2: 0, 3: 0}, {2: 0, 3: 0}, {2: 0, 3: 0})

    def test_blocks_that_cannot_be_reached(self):
        self.known(made((("stop", 2),), (("const", 2, 5), ("jump", 0))), {2: 0}, None)
        self.known(made((("stop", 2),), (("const", 7, 5), ("out", 8), ("jump", 2)), (("jump", 1),)), {2: 0, 7: 0, 8: 0}, None, None)

    def test_registers_that_only_a_row_names_that_is_never_done(self):
        self.known(made((("branch", 2, 1, 2),), (("select", 30, 31, 32, 33), ("stop", 34)), (("stop", 2),)),
                   {k: 0 for k in (2, 30, 31, 32, 33, 34)}, None, {k: 0 for k in (2, 30, 31, 32, 33, 34)})

    def test_results_are_the_callers(self):
        program = made((("const", 2, 4), ("branch", 0, 0, 1)), (("stop", 2),))
        first = known_numbers(program)
        first[1][2] = 9
        first[0][2] = 9
        first.append(None)
        self.known(program, {}, {2: 4})

    def test_no_dict_twice(self):
        found = known_numbers(made((("jump", 1),), (("jump", 2),), (("stop", 2),)))
        found[1][2] = 9
        self.assertEqual(found, [{2: 0}, {2: 9}, {2: 0}])

    def test_long(self):
        count = 3000
        blocks = tuple((("op", "+", 2, 2, 3), ("jump", k + 1)) for k in range(1, count))
        found = known_numbers(made((("const", 3, 1), ("jump", 1)), *blocks, (("stop", 2),)))
        self.assertEqual(found[-1], {2: count - 1, 3: 1})

    def test_drawn(self):
        for number in range(800):
            program = random_ir(number)
            self.assertEqual(known_numbers(program), slow_known(program), number)


class TestFold(Case):
    def folded(self, program, *blocks):
        self.assertEqual(fold(program), program[:2] + (blocks,))
        self.assertEqual(slow_fold(program), program[:2] + (blocks,))

    def row(self, row, wanted, *ahead):
        """Behind some rows a row becomes another one."""
        self.folded(made(ahead + (row, ("stop", 0))), ahead + (wanted, ("stop", 0)))

    def test_rows_that_stay(self):
        for row in (("const", 2, 5), ("copy", 2, 0), ("op", "+", 2, 0, 1), ("op", "-", 2, 0, 0), ("select", 2, 0, 0, 1),
                    ("load", 2, 0, 0), ("load", 2, 1, 3), ("store", 0, 3, 4), ("out", 3), ("out", 0)):
            self.row(row, row)
        self.folded(made((("stop", 3),)), (("stop", 3),))
        self.folded(made((("jump", 1),), (("stop", 3),)), (("jump", 1),), (("stop", 3),))

    def test_consts(self):
        self.row(("copy", 2, 3), ("const", 2, 0))
        self.row(("copy", 0, 3), ("const", 0, 0))
        self.row(("op", "<=", 2, 3, 4), ("const", 2, 1))
        self.row(("op", "-", 2, 3, 4), ("const", 2, TOP), ("const", 4, 1))
        self.row(("op", "&", 2, 3, 0), ("const", 2, 0))
        self.row(("op", "*", 2, 0, 3), ("const", 2, 0))
        self.row(("select", 2, 4, 0, 3), ("const", 2, 0))
        self.row(("select", 2, 0, 4, 3), ("const", 2, 0))

    def test_selects(self):
        self.row(("select", 2, 3, 0, 1), ("copy", 2, 1))
        self.row(("select", 2, 3, 0, 1), ("copy", 2, 0), ("const", 3, 5))
        self.row(("select", 2, 3, 4, 1), ("copy", 2, 1))
        self.row(("select", 2, 3, 2, 1), ("copy", 2, 1))
        self.row(("select", 1, 3, 0, 1), ("copy", 1, 1))
        self.row(("select", 2, 0, 1, 1), ("copy", 2, 1))
        self.row(("select", 0, 0, 0, 0), ("copy", 0, 0))
        self.row(("select", 2, 1, 0, 3), ("select", 2, 1, 0, 3))

    def test_ops_with_a_number(self):
        start = (("const", 3, 0), ("const", 4, 1), ("const", 5, 2))
        copied = {0: ("+", "|", "^", "-", "<<", ">>"), 1: ("*", "div"), 2: ()}
        copied_behind = {0: ("+", "|", "^"), 1: ("*",), 2: ()}
        for sign in SIGNS:
            for number in (0, 1, 2):
                if number == 0 and sign in ("&", "*"):
                    continue
                row = ("op", sign, 2, 0, 3 + number)
                self.row(row, ("copy", 2, 0) if sign in copied[number] else row, *start)
                row = ("op", sign, 2, 3 + number, 0)
                self.row(row, ("copy", 2, 0) if sign in copied_behind[number] else row, *start)
                row = ("op", sign, 3 + number, 3 + number, 0)
                self.row(row, ("copy", 3 + number, 0) if sign in copied_behind[number] else row, *start)

    def test_what_a_row_writes_counts_for_the_next_one(self):
        self.folded(made((("const", 2, 5), ("op", "+", 2, 2, 2), ("op", "+", 3, 2, 0), ("copy", 2, 0), ("op", "+", 3, 2, 4), ("stop", 2))),
                    (("const", 2, 5), ("const", 2, 10), ("op", "+", 3, 2, 0), ("copy", 2, 0), ("copy", 3, 2), ("stop", 2)))

    def test_branches(self):
        self.folded(made((("branch", 2, 1, 2),), (("stop", 0),), (("stop", 1),)), (("jump", 2),), (("stop", 0),), (("stop", 1),))
        self.folded(made((("const", 2, 9), ("branch", 2, 1, 2)), (("stop", 0),), (("stop", 1),)),
                    (("const", 2, 9), ("jump", 1)), (("stop", 0),), (("stop", 1),))
        self.folded(made((("branch", 2, 1, 1),), (("stop", 0),)), (("jump", 1),), (("stop", 0),))
        self.folded(made((("branch", 0, 1, 1),), (("stop", 0),)), (("branch", 0, 1, 1),), (("stop", 0),))

    def test_blocks_that_are_not_reached_stay(self):
        shut = (("copy", 2, 3), ("op", "+", 4, 0, 3), ("select", 4, 3, 0, 0), ("branch", 3, 1, 2))
        self.folded(made((("branch", 2, 1, 2),), shut, (("copy", 2, 3), ("stop", 2))),
                    (("jump", 2),), shut, (("const", 2, 0), ("stop", 2)))

    def test_numbers_from_other_blocks(self):
        self.folded(made((("const", 2, 5), ("branch", 0, 1, 2)), (("const", 3, 6), ("jump", 3)), (("const", 3, 6), ("jump", 3)),
                         (("op", "+", 4, 2, 3), ("branch", 4, 4, 4)), (("stop", 4),)),
                    (("const", 2, 5), ("branch", 0, 1, 2)), (("const", 3, 6), ("jump", 3)), (("const", 3, 6), ("jump", 3)),
                    (("const", 4, 11), ("jump", 4)), (("stop", 4),))

    def test_arguments_stay(self):
        program = made((("copy", 2, 3), ("branch", 2, 0, 1)), (("stop", 2),))
        again = made((("copy", 2, 3), ("branch", 2, 0, 1)), (("stop", 2),))
        fold(program)
        self.assertEqual(program, again)

    def test_drawn(self):
        for number in range(800):
            program = random_ir(number)
            self.assertEqual(fold(program), slow_fold(program), number)
            program = random_jumps(number)
            self.assertEqual(fold(program), slow_fold(program), number)


if __name__ == "__main__":
    unittest.main()
