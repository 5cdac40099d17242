"""The pass jumps (point 5.9)."""

import unittest

from sameclock.ir import is_ir
from sameclock.passes import jumps
from flows import random_ir, random_jumps
from pass_reference import one_jump_change, slow_jumps

OUT = [("out", k) for k in range(9)]


def jump(t):
    return ("jump", t)


def branch(t, u):
    return ("branch", 9, t, u)


STOP = ("stop", 0)


class TestJumps(unittest.TestCase):
    def becomes(self, blocks, wanted, changes=None):
        """What blocks become, after so many changes."""
        program = ((), 1, tuple(blocks))
        self.assertTrue(is_ir(program))
        self.assertEqual(jumps(program), ((), 1, tuple(wanted)))
        self.assertEqual(slow_jumps(program), ((), 1, tuple(wanted)))
        if changes is not None:
            left = list(blocks)
            for _ in range(changes):
                left = one_jump_change(left)
            self.assertIsNone(one_jump_change(left))

    def stays(self, *blocks):
        self.becomes(blocks, blocks, 0)

    def test_nothing(self):
        self.stays((STOP,))
        self.stays((OUT[0], STOP))
        self.stays((branch(1, 2),), (OUT[1], STOP), (OUT[2], STOP))
        self.stays((OUT[0], branch(0, 1)), (STOP,))
        self.stays((branch(1, 2),), (OUT[1], jump(3)), (OUT[2], jump(3)), (STOP,))

    def test_branch_to_one_block(self):
        self.becomes([(OUT[0], branch(0, 0))], [(OUT[0], jump(0))], 1)
        self.becomes([(branch(0, 0),)], [(jump(0),)], 1)
        self.becomes([(OUT[0], branch(1, 2)), (OUT[1], branch(0, 0)), (STOP,)], [(OUT[0], branch(1, 2)), (OUT[1], jump(0)), (STOP,)], 1)

    def test_way_to_a_jump(self):
        self.becomes([(branch(1, 2),), (jump(3),), (OUT[2], jump(3)), (OUT[3], STOP)],
                     [(branch(2, 1),), (OUT[2], jump(2)), (OUT[3], STOP)], 2)
        self.becomes([(OUT[0], branch(1, 3)), (OUT[1], jump(2)), (jump(0),), (STOP,)],
                     [(OUT[0], branch(1, 2)), (OUT[1], jump(0)), (STOP,)], 2)

    def test_chain_of_jumps(self):
        self.becomes([(branch(1, 5),), (jump(2),), (jump(3),), (jump(4),), (OUT[4], jump(5)), (OUT[5], jump(0))],
                     [(branch(1, 2),), (OUT[4], jump(2)), (OUT[5], jump(0))])

    def test_blocks_that_cannot_be_come_to(self):
        self.becomes([(STOP,), (OUT[1], STOP)], [(STOP,)], 1)
        self.becomes([(branch(2, 4),), (OUT[1], jump(2)), (OUT[2], STOP), (OUT[3], jump(1)), (OUT[4], STOP)],
                     [(branch(1, 2),), (OUT[2], STOP), (OUT[4], STOP)], 1)

    def test_block_that_is_taken_over(self):
        self.becomes([(OUT[0], jump(1)), (OUT[1], STOP)], [(OUT[0], OUT[1], STOP)], 2)
        self.becomes([(OUT[0], jump(1)), (OUT[1], branch(0, 0))], [(OUT[0], OUT[1], jump(0))])
        self.becomes([(OUT[0], jump(2)), (STOP,), (OUT[2], branch(1, 0))], [(OUT[0], OUT[2], branch(1, 0)), (STOP,)], 2)
        self.becomes([(OUT[0], jump(3)), (OUT[1], STOP), (OUT[2], jump(1)), (OUT[3], jump(2))], [(OUT[0], OUT[3], OUT[2], OUT[1], STOP)])

    def test_first_block_is_not_taken_over(self):
        self.stays((OUT[0], branch(1, 2)), (OUT[1], jump(0)), (STOP,))
        self.becomes([(OUT[0], jump(1)), (OUT[1], jump(0))], [(OUT[0], OUT[1], jump(0))], 2)
        self.stays((OUT[0], jump(0)))

    def test_way_of_two_blocks_is_not_taken_over(self):
        self.stays((branch(1, 2),), (OUT[1], jump(2)), (OUT[2], STOP))
        self.becomes([(OUT[0], jump(1)), (OUT[1], branch(1, 2)), (STOP,)], [(OUT[0], jump(1)), (OUT[1], branch(1, 2)), (STOP,)], 0)

    def test_first_block_is_a_jump_alone(self):
        self.becomes([(jump(1),), (OUT[1], STOP)], [(OUT[1], STOP)], 2)
        self.becomes([(jump(1),), (OUT[1], branch(0, 2)), (STOP,)], [(jump(1),), (OUT[1], branch(1, 2)), (STOP,)], 1)
        self.becomes([(jump(1),), (jump(2),), (OUT[2], STOP)], [(OUT[2], STOP)])
        self.stays((jump(0),))

    def test_rings(self):
        self.stays((branch(1, 2),), (jump(1),), (STOP,))
        self.stays((branch(1, 2),), (jump(2),), (jump(1),))
        self.becomes([(branch(1, 3),), (jump(2),), (jump(1),), (STOP,)], [(branch(1, 2),), (jump(1),), (STOP,)], 2)
        self.stays((branch(1, 3),), (branch(2, 4),), (jump(4),), (STOP,), (jump(2),))
        self.stays((branch(1, 3),), (jump(2),), (jump(2),), (STOP,))
        self.becomes([(OUT[0], jump(1)), (jump(1),)], [(OUT[0], jump(1)), (jump(1),)], 0)
        self.becomes([(jump(1),), (jump(0),)], [(jump(0),)], 2)
        self.becomes([(jump(1),), (jump(2),), (jump(0),)], [(jump(0),)], 4)
        self.stays((jump(1),), (jump(1),))
        self.becomes([(jump(1),), (jump(2),), (jump(1),)], [(jump(1),), (jump(1),)], 2)

    def test_way_into_a_ring_through_a_jump(self):
        self.becomes([(OUT[0], branch(1, 3)), (jump(2),), (jump(2),), (STOP,)], [(OUT[0], branch(1, 3)), (jump(2),), (jump(2),), (STOP,)], 0)

    def test_first_way_first(self):
        # Both ways are made shorter, so that the branch is a jump at the end, and what it jumps to is taken over.
        self.becomes([(OUT[0], branch(1, 2)), (jump(3),), (jump(3),), (OUT[3], STOP)], [(OUT[0], OUT[3], STOP)])
        # The first way of block 1 becomes 0; block 1 is a jump alone then, and with it a ring.
        self.becomes([(branch(1, 2),), (branch(3, 4),), (STOP,), (jump(1),), (jump(1),)], [(branch(1, 2),), (jump(1),), (STOP,)])

    def test_order_matters(self):
        # Block 0 goes to block 3 before block 3 becomes a jump alone, in a ring with block 4.
        blocks = [(OUT[0], branch(1, 2)), (jump(3),), (STOP,), (branch(4, 5),), (jump(3),), (jump(4),)]
        self.becomes(blocks, slow_jumps(((), 1, tuple(blocks)))[2])
        # A block with a smaller number than the branch that becomes a jump, and one with a greater.
        for first in ((OUT[0], branch(3, 4)), (OUT[0], branch(1, 4)), (OUT[0], branch(4, 3))):
            blocks = [first, (branch(2, 3),), (jump(1),), (jump(2),), (STOP,)]
            self.becomes(blocks, slow_jumps(((), 1, tuple(blocks)))[2])

    def test_branch_to_one_block_comes_first(self):
        self.becomes([(OUT[0], branch(1, 3)), (branch(2, 2),), (jump(3),), (OUT[3], STOP)], [(OUT[0], OUT[3], STOP)])

    def test_numbers_behind_a_change(self):
        self.becomes([(branch(5, 3),), (OUT[1], STOP), (jump(1),), (OUT[3], branch(0, 5)), (OUT[4], STOP), (OUT[5], branch(0, 3))],
                     [(branch(2, 1),), (OUT[3], branch(0, 2)), (OUT[5], branch(0, 1))], 1)

    def test_arguments_stay(self):
        program = ((), 1, ((OUT[0], jump(1)), (OUT[1], STOP)))
        jumps(program)
        self.assertEqual(program, ((), 1, ((OUT[0], jump(1)), (OUT[1], STOP))))

    def test_long(self):
        count = 4000
        blocks = [(OUT[0], jump(k + 1)) for k in range(count)] + [(STOP,)]
        self.assertEqual(jumps(((), 1, tuple(blocks)))[2], ((OUT[0],) * count + (STOP,),))
        blocks = [(jump(k + 1),) for k in range(count)] + [(STOP,)]
        self.assertEqual(jumps(((), 1, tuple(blocks)))[2], ((STOP,),))
        blocks = [(branch(k + 1, k + 2),) for k in range(count)] + [(jump(count + 1),), (STOP,)]
        self.assertEqual(jumps(((), 1, tuple(blocks)))[2], ((STOP,),))

    def test_drawn(self):
        for number in range(12000):
            program = random_jumps(number)
            self.assertEqual(jumps(program), slow_jumps(program), number)
        for number in range(500):
            program = random_ir(number)
            self.assertEqual(jumps(program), slow_jumps(program), number)


if __name__ == "__main__":
    unittest.main()
