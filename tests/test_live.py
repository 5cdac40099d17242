"""Live registers (point 6.4)."""

import unittest

from sameclock.ir import is_ir
from sameclock.live import live_at, live_behind
from flows import random_ir, random_jumps
from pass_reference import slow_live

ARRAYS = (("pub", 4, "public"), ("sec", 4, "secret"))


def made(*blocks, params=2):
    program = (ARRAYS, params, blocks)
    assert is_ir(program), program
    return program


class TestLive(unittest.TestCase):
    def live(self, program, at, behind):
        self.assertEqual(live_at(program), at)
        self.assertEqual(live_behind(program), behind)
        self.assertEqual(slow_live(program), (at, behind))

    def test_each_kind_of_row(self):
        for row, at in ((("const", 2, 9), (1,)), (("copy", 2, 9), (1, 9)), (("op", "+", 2, 9, 8), (1, 8, 9)), (("select", 2, 9, 7, 8), (1, 7, 8, 9)),
                        (("load", 2, 0, 5), (1, 5)), (("op", "+", 2, 2, 2), (1, 2))):
            self.live(made((row, ("op", "+", 1, 1, 2), ("stop", 1))), ((at, (1, 2), (1,)),), (((1, 2), (1,), ()),))
        for row, at in ((("store", 0, 5, 4), (1, 4, 5)), (("out", 7), (1, 7)), (("out", 1), (1,))):
            self.live(made((row, ("stop", 1))), ((at, (1,)),), (((1,), ()),))

    def test_rows_whose_register_is_not_needed_read_all_the_same(self):
        self.live(made((("copy", 3, 4), ("copy", 5, 3), ("stop", 0))), (((0, 4), (0, 3), (0,)),), (((0, 3), (0,), ()),))

    def test_ways_ahead(self):
        self.live(made((("jump", 1),), (("stop", 3),)), (((3,),), ((3,),)), (((3,),), ((),)))
        self.live(made((("branch", 0, 1, 2),), (("stop", 3),), (("stop", 4),)), (((0, 3, 4),), ((3,),), ((4,),)), (((3, 4),), ((),), ((),)))

    def test_written_on_one_way_alone(self):
        self.live(made((("branch", 0, 1, 2),), (("const", 3, 1), ("jump", 2)), (("stop", 3),)),
                  (((0, 3),), ((), (3,)), ((3,),)), (((3,),), ((3,), (3,)), ((),)))

    def test_ways_back(self):
        self.live(made((("const", 3, 1), ("jump", 1)), (("out", 3), ("const", 4, 1), ("branch", 0, 1, 2)), (("stop", 4),)),
                  (((0,), (0, 3)), ((0, 3), (0, 3), (0, 3, 4)), ((4,),)), (((0, 3), (0, 3)), ((0, 3), (0, 3, 4), (0, 3, 4)), ((),)))

    def test_loops(self):
        self.live(made((("op", "+", 3, 3, 4), ("jump", 0))), (((3, 4), (3, 4)),), (((3, 4), (3, 4)),))
        self.live(made((("const", 3, 1), ("out", 3), ("jump", 0))), (((), (3,), ()),), (((3,), (), ()),))
        self.live(made((("jump", 0),)), (((),),), (((),),))

    def test_last_row_that_both_reads_and_leads_on(self):
        self.live(made((("branch", 3, 0, 1),), (("const", 3, 1), ("stop", 3))), (((3,),), ((), (3,))), (((3,),), ((3,), ())))

    def test_blocks_that_cannot_be_come_to(self):
        self.live(made((("stop", 0),), (("out", 5), ("jump", 1)), (("const", 0, 1), ("jump", 0))), (((0,),), ((5,), (5,)), ((), (0,))),
                  (((),), ((5,), (5,)), ((0,), (0,))))

    def test_far(self):
        count = 500
        blocks = tuple((("jump", k + 1),) for k in range(count)) + ((("stop", 7),),)
        self.assertEqual(live_at(made(*blocks)), (((7,),),) * (count + 1))
        self.assertEqual(live_behind(made(*blocks)), (((7,),),) * count + (((),),))

    def test_arguments_stay(self):
        program = random_ir(5)
        live_at(program)
        live_behind(program)
        self.assertEqual(program, random_ir(5))

    def test_drawn(self):
        for number in range(800):
            for program in (random_ir(number), random_jumps(number)):
                self.assertEqual((live_at(program), live_behind(program)), slow_live(program), number)


if __name__ == "__main__":
    unittest.main()
