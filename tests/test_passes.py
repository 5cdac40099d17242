"""What every pass keeps (point 5.1), and optimise."""

import itertools
import random
import unittest

from sameclock.check import check, typed
from sameclock.ir import is_ir, run_ir
from sameclock.ir_labels import keeps_secrets
from sameclock.lower import lower
from sameclock.meaning import meaning
from sameclock import passes
from sameclock.passes import optimise
from flows import random_ir, random_jumps, random_labels, random_state
from good import good_program, other_secrets, random_inputs
from pass_reference import slow_common, slow_copies, slow_dead, slow_fold, slow_jumps
from reference import traced, tree_meaning

NAMES = ("fold", "copies", "common", "dead", "jumps")
SLOW = {"fold": slow_fold, "copies": slow_copies, "common": slow_common, "dead": slow_dead, "jumps": slow_jumps}


def steps_of(program, inputs, contents, most):
    """The least number of steps with which a run stops, None if it is greater than most."""
    if run_ir(program, inputs, contents, most) is None:
        return None
    low = 0
    while low < most:
        half = (low + most) // 2
        if run_ir(program, inputs, contents, half) is None:
            low = half + 1
        else:
            most = half
    return most


class TestOptimise(unittest.TestCase):
    def test_no_names(self):
        program = random_ir(7)
        self.assertEqual(optimise(program, ()), program)

    def test_one_name(self):
        for name in NAMES:
            for number in range(40):
                program = random_ir(number)
                self.assertEqual(optimise(program, (name,)), getattr(passes, name)(program))
                self.assertEqual(optimise(program, (name,)), SLOW[name](program))

    def test_in_this_order(self):
        start = ((), 1, ((("const", 1, 0), ("copy", 2, 1), ("branch", 2, 1, 2)), (("out", 0), ("stop", 0)), (("stop", 2),)))
        self.assertEqual(optimise(start, ("fold", "dead", "jumps")), ((), 1, ((("const", 2, 0), ("stop", 2)),)))
        self.assertEqual(optimise(start, ("jumps", "dead", "fold")),
                         ((), 1, ((("const", 1, 0), ("const", 2, 0), ("jump", 2)), (("out", 0), ("stop", 0)), (("stop", 2),))))
        self.assertEqual(optimise(start, ("fold", "fold", "dead", "jumps", "dead")), optimise(start, ("fold", "dead", "jumps")))

    def test_rows_of_passes(self):
        for number in range(150):
            chance = random.Random(number)
            program = random_ir(number)
            names = tuple(chance.choice(NAMES) for _ in range(chance.randrange(2, 7)))
            wanted = program
            for name in names:
                wanted = SLOW[name](wanted)
            self.assertEqual(optimise(program, names), wanted)

    def test_arguments_stay(self):
        program = random_ir(11)
        again = random_ir(11)
        optimise(program, NAMES)
        self.assertEqual(program, again)


class TestKept(unittest.TestCase):
    def kept(self, program, new, number):
        """What point 5.1 says, for a program and what passes made of it."""
        self.assertIs(is_ir(new), True)
        self.assertEqual(new[:2], program[:2])
        for more in range(2):
            labels = random_labels(program, number * 7 + more)
            if keeps_secrets(program, labels):
                self.assertIs(keeps_secrets(new, labels), True, number)
            inputs, contents = random_state(program, number * 13 + more)
            steps = steps_of(program, inputs, contents, 200)
            if steps is not None:
                self.assertEqual(run_ir(new, inputs, contents, steps), run_ir(program, inputs, contents, steps), number)

    def test_each_pass(self):
        for number in range(400):
            for program in (random_ir(number), random_jumps(number)):
                for name in NAMES:
                    self.kept(program, optimise(program, (name,)), number)

    def test_all_orders(self):
        for number, names in enumerate(itertools.permutations(NAMES)):
            for more in range(3):
                program = random_ir(number * 3 + more)
                self.kept(program, optimise(program, names), number)

    def test_drawn_rows_of_passes(self):
        for number in range(400):
            chance = random.Random(number)
            program = random_ir(number)
            self.kept(program, optimise(program, tuple(chance.choice(NAMES) for _ in range(chance.randrange(1, 9)))), number)

    def test_once_more(self):
        for number in range(600):
            for program in (random_ir(number), random_jumps(number), optimise(random_ir(number), NAMES)):
                for name in NAMES:
                    once = optimise(program, (name,))
                    self.assertEqual(optimise(once, (name,)), once, (number, name))

    def test_programs_that_keep_their_secrets(self):
        kept = 0
        for number in range(1500):
            program = random_ir(number)
            labels = random_labels(program, number)
            if not keeps_secrets(program, labels):
                continue
            kept += 1
            for name in NAMES:
                self.assertIs(keeps_secrets(optimise(program, (name,)), labels), True, (number, name))
        self.assertGreater(kept, 100)


class TestLowered(unittest.TestCase):
    def test_good_programs(self):
        for number in range(120):
            chance = random.Random(number)
            tree = good_program(number)
            program = check(tree)
            labels = program[2][1]
            first = lower(program)
            new = optimise(first, tuple(chance.choice(NAMES) for _ in range(chance.randrange(1, 9))))
            self.assertIs(keeps_secrets(new, labels), True)
            inputs, contents = random_inputs(tree, number)
            found, trail, steps = traced(new, inputs, contents)
            self.assertEqual(found, tree_meaning(tree, inputs, contents), number)
            self.assertLessEqual(steps, traced(first, inputs, contents)[2])
            others = other_secrets(tree, inputs, contents, number)
            self.assertEqual(traced(new, *others)[1], trail, number)

    def test_text(self):
        text = """secret array key[5]; public array box[3];
            fn f(secret x, public y) { secret z = x div 3; key[x] = z; for i to y max 4 { z = z + key[i]; } return z; }
            main(secret s, public p) { secret t = 0; if s { t = f(s, p); } else { t = f(3, 2) + 0 * s; } box[p] = p;
            public q = 0; if q { out 1; } if p < 2 { out p * 1; } return t + f(t, 2) + key[p]; }"""
        program = typed(text)
        first = lower(program)
        new = optimise(first, NAMES + NAMES)
        contents = ((1, 2, 3, 4, 5), (6, 7, 8))
        for inputs in ((0, 0), (1, 1), (7, 3), (4, 2)):
            found, _, steps = traced(new, inputs, contents)
            self.assertEqual(found, meaning(program, inputs, contents))
            self.assertLess(steps, traced(first, inputs, contents)[2])


if __name__ == "__main__":
    unittest.main()
