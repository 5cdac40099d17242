"""What registers come from and stand for, and the pass copies (points 5.5 and 5.6)."""

import unittest

from sameclock.ir import is_ir
from sameclock.passes import copies, stand_for
from flows import random_copies, random_ir
from pass_reference import slow_copies, slow_stand_for

ARRAYS = (("pub", 4, "public"), ("sec", 4, "secret"))


def made(*blocks, params=2):
    program = (ARRAYS, params, blocks)
    assert is_ir(program), program
    return program


class TestStandFor(unittest.TestCase):
    def stands(self, program, *wanted):
        self.assertEqual(stand_for(program), list(wanted))
        self.assertEqual(slow_stand_for(program), list(wanted))

    def behind(self, wanted, *rows):
        self.stands(made(rows + (("jump", 1),), (("stop", 0),)), {}, wanted)

    def test_one_copy(self):
        self.behind({3: 2}, ("copy", 3, 2))
        self.behind({2: 3}, ("copy", 2, 3))
        self.behind({1: 0}, ("copy", 1, 0))

    def test_other_rows(self):
        self.behind({}, ("const", 3, 2), ("op", "+", 4, 3, 3), ("select", 5, 3, 4, 4), ("load", 6, 0, 3), ("store", 0, 3, 4), ("out", 3))

    def test_chains(self):
        self.behind({3: 2, 4: 2, 5: 2}, ("copy", 3, 2), ("copy", 4, 3), ("copy", 5, 4))
        self.behind({3: 9, 4: 9}, ("copy", 3, 9), ("copy", 4, 3))
        self.behind({3: 2, 4: 2}, ("copy", 3, 2), ("copy", 4, 2))

    def test_source_is_written_again(self):
        self.behind({}, ("copy", 3, 2), ("const", 2, 5))
        self.behind({}, ("copy", 3, 2), ("load", 2, 0, 0))
        self.behind({}, ("copy", 3, 2), ("op", "+", 2, 3, 3))
        self.behind({}, ("copy", 3, 2), ("select", 2, 3, 3, 3))
        self.behind({3: 2}, ("copy", 3, 2), ("const", 4, 5))
        self.behind({3: 2}, ("copy", 3, 2), ("store", 0, 2, 2), ("out", 2))

    def test_middle_is_written_again(self):
        self.behind({4: 2}, ("copy", 3, 2), ("copy", 4, 3), ("const", 3, 5))
        self.behind({4: 3, 2: 7}, ("copy", 3, 2), ("copy", 4, 3), ("copy", 2, 7))

    def test_root_is_written_again(self):
        self.behind({4: 3}, ("copy", 3, 2), ("copy", 4, 3), ("const", 2, 5))
        self.behind({}, ("copy", 3, 2), ("copy", 4, 2), ("const", 2, 5))

    def test_copy_is_written_again(self):
        self.behind({}, ("copy", 3, 2), ("const", 3, 5))
        self.behind({3: 4}, ("copy", 3, 2), ("copy", 3, 4))

    def test_copy_to_itself(self):
        self.behind({}, ("copy", 3, 3))
        self.behind({}, ("copy", 3, 2), ("copy", 3, 3))
        self.behind({}, ("copy", 3, 2), ("copy", 2, 2))

    def test_copy_back(self):
        self.behind({2: 3}, ("copy", 3, 2), ("copy", 2, 3))
        self.behind({2: 3, 4: 3}, ("copy", 3, 2), ("copy", 4, 3), ("copy", 2, 4))

    def test_several_that_come_from_none(self):
        two = made((("branch", 0, 1, 2),), (("copy", 4, 5), ("copy", 6, 4), ("jump", 3)), (("copy", 5, 4), ("copy", 6, 5), ("jump", 3)),
                   (("stop", 6),))
        self.stands(two, {}, {}, {}, {6: 4})

    def test_two_ways(self):
        def program(first, second):
            return made((("branch", 0, 1, 2),), (first, ("jump", 3)), (second, ("jump", 3)), (("stop", 0),))
        self.stands(program(("copy", 4, 5), ("copy", 4, 5)), {}, {}, {}, {4: 5})
        self.stands(program(("copy", 4, 5), ("copy", 4, 6)), {}, {}, {}, {})
        self.stands(program(("copy", 4, 5), ("copy", 5, 4)), {}, {}, {}, {})
        self.stands(program(("copy", 4, 5), ("out", 4)), {}, {}, {}, {})

    def test_two_ways_by_another_register(self):
        program = made((("branch", 0, 1, 2),), (("copy", 4, 5), ("copy", 6, 4), ("jump", 3)), (("copy", 6, 5), ("jump", 3)), (("stop", 0),))
        self.stands(program, {}, {}, {}, {6: 5})

    def test_both_ways_of_a_branch(self):
        program = made((("copy", 4, 5), ("branch", 0, 1, 2)), (("const", 5, 1), ("stop", 0)), (("stop", 0),))
        self.stands(program, {}, {4: 5}, {4: 5})
        self.stands(made((("copy", 4, 5), ("branch", 0, 1, 1)), (("stop", 0),)), {}, {4: 5})

    def test_loops(self):
        keeps = made((("copy", 4, 5), ("jump", 1)), (("out", 4), ("branch", 0, 1, 2)), (("stop", 4),))
        self.stands(keeps, {}, {4: 5}, {4: 5})
        ends = made((("copy", 4, 5), ("jump", 1)), (("out", 4), ("const", 5, 1), ("branch", 0, 1, 2)), (("stop", 4),))
        self.stands(ends, {}, {}, {})
        ends = made((("copy", 4, 5), ("copy", 6, 5), ("jump", 1)), (("const", 6, 1), ("branch", 0, 1, 2)), (("stop", 4),))
        self.stands(ends, {}, {4: 5}, {4: 5})

    def test_loop_that_makes_the_copy_again(self):
        program = made((("copy", 4, 5), ("jump", 1)), (("const", 5, 1), ("copy", 4, 5), ("branch", 0, 1, 2)), (("stop", 4),))
        self.stands(program, {}, {4: 5}, {4: 5})

    def test_beginning(self):
        self.stands(made((("copy", 4, 5), ("jump", 0))), {})
        self.stands(made((("copy", 4, 5), ("branch", 0, 0, 1)), (("stop", 4),)), {}, {4: 5})

    def test_blocks_that_cannot_be_come_to(self):
        program = made((("copy", 4, 5), ("jump", 2)), (("const", 4, 1), ("jump", 2)), (("stop", 4),))
        self.stands(program, {}, None, {4: 5})
        self.stands(made((("stop", 0),), (("copy", 4, 5), ("jump", 2)), (("stop", 4),)), {}, None, None)

    def test_branch_on_a_known_number_goes_both_ways_here(self):
        program = made((("const", 2, 1), ("branch", 2, 1, 2)), (("copy", 4, 5), ("jump", 3)), (("jump", 3),), (("stop", 4),))
        self.stands(program, {}, {}, {}, {})

    def test_results_are_the_callers(self):
        program = made((("copy", 4, 5), ("jump", 1)), (("jump", 2),), (("stop", 4),))
        found = stand_for(program)
        found[1][4] = 9
        found[0][4] = 9
        self.assertEqual(found[2], {4: 5})
        self.stands(program, {}, {4: 5}, {4: 5})

    def test_several_and_one_between(self):
        # 9 comes from 3, 4 and 5 on both ways; 3 comes from 4 on both, but of 4 and 5 none from the other one.
        program = made((("branch", 0, 1, 2),), (("copy", 4, 5), ("copy", 3, 4), ("copy", 9, 3), ("jump", 3)),
                       (("copy", 3, 4), ("copy", 5, 3), ("copy", 9, 5), ("jump", 3)), (("out", 9), ("const", 4, 1), ("out", 9), ("jump", 4)), (("stop", 9),))
        self.stands(program, {}, {}, {}, {3: 4, 9: 4}, {9: 3})

    def test_several_of_which_one_is_written(self):
        start = ((("branch", 0, 1, 2),), (("copy", 4, 5), ("copy", 6, 4), ("copy", 7, 6), ("jump", 3)), (("copy", 5, 4), ("copy", 6, 5), ("copy", 7, 6), ("jump", 3)))
        for row, wanted in ((("const", 4, 1), {6: 5, 7: 5}), (("const", 5, 1), {6: 4, 7: 4}), (("const", 6, 1), {7: 4}), (("copy", 4, 3), {4: 3, 6: 5, 7: 5}),
                            (("copy", 5, 6), {5: 4, 6: 4, 7: 4}), (("out", 4), {6: 4, 7: 4})):
            self.stands(made(*start, (row, ("jump", 4)), (("stop", 6),)), {}, {}, {}, {6: 4, 7: 4}, wanted)

    def test_drawn(self):
        for number in range(800):
            for program in (random_ir(number), random_copies(number)):
                self.assertEqual(stand_for(program), slow_stand_for(program), number)


class TestCopies(unittest.TestCase):
    def changed(self, program, *blocks):
        self.assertEqual(copies(program), program[:2] + (blocks,))
        self.assertEqual(slow_copies(program), program[:2] + (blocks,))

    def row(self, row, wanted):
        start = (("copy", 3, 2), ("copy", 4, 3), ("copy", 5, 0))
        new = (("copy", 3, 2), ("copy", 4, 2), ("copy", 5, 0))
        self.changed(made(start + (row, ("stop", 9))), new + (wanted, ("stop", 9)))

    def test_each_part(self):
        self.row(("const", 3, 4), ("const", 3, 4))
        self.row(("copy", 6, 3), ("copy", 6, 2))
        self.row(("copy", 3, 4), ("copy", 3, 2))
        self.row(("copy", 4, 5), ("copy", 4, 0))
        self.row(("op", "+", 6, 3, 7), ("op", "+", 6, 2, 7))
        self.row(("op", "-", 6, 7, 4), ("op", "-", 6, 7, 2))
        self.row(("op", "div", 3, 3, 5), ("op", "div", 3, 2, 0))
        self.row(("select", 6, 3, 7, 8), ("select", 6, 2, 7, 8))
        self.row(("select", 6, 7, 4, 8), ("select", 6, 7, 2, 8))
        self.row(("select", 6, 7, 8, 5), ("select", 6, 7, 8, 0))
        self.row(("select", 5, 5, 5, 5), ("select", 5, 0, 0, 0))
        self.row(("load", 6, 1, 3), ("load", 6, 1, 2))
        self.row(("load", 3, 0, 3), ("load", 3, 0, 2))
        self.row(("store", 1, 4, 7), ("store", 1, 2, 7))
        self.row(("store", 0, 7, 5), ("store", 0, 7, 0))
        self.row(("out", 5), ("out", 0))

    def test_numbers_that_are_no_registers(self):
        self.changed(made((("copy", 1, 0), ("const", 3, 1), ("load", 4, 1, 1), ("store", 1, 3, 1), ("jump", 1)), (("branch", 3, 1, 1),)),
                     (("copy", 1, 0), ("const", 3, 1), ("load", 4, 1, 0), ("store", 1, 3, 0), ("jump", 1)), (("branch", 3, 1, 1),))

    def test_last_rows(self):
        self.changed(made((("copy", 3, 2), ("branch", 3, 1, 2)), (("stop", 3),), (("copy", 2, 3), ("stop", 2))),
                     (("copy", 3, 2), ("branch", 2, 1, 2)), (("stop", 2),), (("copy", 2, 2), ("stop", 3)))

    def test_copy_to_itself_stays(self):
        self.changed(made((("copy", 3, 2), ("copy", 3, 3), ("stop", 3))), (("copy", 3, 2), ("copy", 3, 3), ("stop", 3)))

    def test_copy_that_becomes_one_to_itself(self):
        self.changed(made((("copy", 3, 2), ("copy", 2, 3), ("out", 2), ("stop", 3))),
                     (("copy", 3, 2), ("copy", 2, 2), ("out", 3), ("stop", 3)))

    def test_source_is_written_again(self):
        self.changed(made((("copy", 3, 2), ("const", 2, 1), ("out", 3), ("copy", 4, 3), ("op", "+", 3, 4, 4), ("stop", 4))),
                     (("copy", 3, 2), ("const", 2, 1), ("out", 3), ("copy", 4, 3), ("op", "+", 3, 3, 3), ("stop", 4)))

    def test_blocks_that_cannot_be_come_to_stay(self):
        shut = (("copy", 3, 2), ("out", 3), ("stop", 3))
        self.changed(made((("stop", 0),), shut), (("stop", 0),), shut)

    def test_way_from_a_block_that_cannot_be_come_to(self):
        self.changed(made((("copy", 4, 5), ("jump", 2)), (("const", 4, 1), ("jump", 2)), (("stop", 4),)),
                     (("copy", 4, 5), ("jump", 2)), (("const", 4, 1), ("jump", 2)), (("stop", 5),))

    def test_arguments_stay(self):
        program = made((("copy", 3, 2), ("out", 3), ("stop", 3)))
        again = made((("copy", 3, 2), ("out", 3), ("stop", 3)))
        copies(program)
        self.assertEqual(program, again)

    def test_long_chain(self):
        count = 20000
        rows = tuple(("copy", k + 1, k) for k in range(2, count))
        self.assertEqual(copies(made(rows + (("jump", 1),), (("stop", count),)))[2],
                         (tuple(("copy", k + 1, 2) for k in range(2, count)) + (("jump", 1),), (("stop", 2),)))

    def test_drawn(self):
        for number in range(800):
            for program in (random_ir(number), random_copies(number)):
                self.assertEqual(copies(program), slow_copies(program), number)


if __name__ == "__main__":
    unittest.main()
