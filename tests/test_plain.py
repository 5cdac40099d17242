"""Machine code without a machine (points 6.1, 6.2 and 8.11)."""

import random
import unittest

from sameclock.code_form import is_code
from sameclock.ir import SIGNS
from sameclock.plain import plain_run
from code_reference import drawn_code, run_code
from machine_reference import drawn_contents, drawn_taken_code
from reference import operate

TOP = 2 ** 32 - 1
REGIONS = ((0, 4, "public"), (4, 2, "secret"))
CONTENTS = ((7, 8, 9, 10), (100, TOP))


class TestPlain(unittest.TestCase):
    def runs(self, wanted, *rows, steps=1000, regions=REGIONS, contents=CONTENTS):
        code = (regions, rows)
        self.assertTrue(is_code(code))
        self.assertEqual(plain_run(code, contents, steps), wanted)

    def result(self, wanted, *rows):
        self.runs(((), wanted, CONTENTS), *rows)

    def test_registers_begin_with_0(self):
        for a in range(16):
            self.result(0, ("stop", a))

    def test_const(self):
        for a in range(16):
            for word in (0, 1, TOP):
                self.result(word, ("const", a, word), ("stop", a))

    def test_ops(self):
        words = (0, 1, 2, 31, 32, 33, 2 ** 31, TOP)
        for sign in SIGNS:
            for a in words:
                for b in words:
                    self.result(operate(sign, a, b), ("const", 1, a), ("const", 2, b), ("op", sign, 3, 1, 2), ("stop", 3))
                self.result(operate(sign, a, a), ("const", 1, a), ("op", sign, 1, 1, 1), ("stop", 1))

    def test_select(self):
        for c, wanted in ((0, 6), (1, 5), (2, 5), (TOP, 5)):
            self.result(wanted, ("const", 1, c), ("const", 2, 5), ("const", 3, 6), ("select", 1, 1, 2, 3), ("stop", 1))

    def test_loads(self):
        for at, base, mask, wanted in ((0, 0, 0, 7), (3, 0, 0, 7), (3, 0, 3, 10), (6, 0, 3, 9), (TOP, 0, 3, 10), (5, 0, 7, TOP), (1, 4, 1, TOP), (2, 4, 1, 100), (0, 5, 0, TOP),
                                       (0, 6, 0, 0), (TOP, 500000, 4095, 0), (0, 500000, 0, 0)):
            self.result(wanted, ("const", 1, at), ("load", 1, 1, base, mask), ("stop", 1))

    def test_stores(self):
        for at, base, mask, cell in ((0, 0, 0, 0), (9, 0, 0, 0), (9, 0, 3, 1), (5, 0, 7, 5), (1, 4, 1, 5), (TOP, 4, 1, 5), (TOP, 0, 4095, None), (0, 500000, 0, None)):
            words = [7, 8, 9, 10, 100, TOP]
            if cell is not None:
                words[cell] = at
            ends = (tuple(words[:4]), tuple(words[4:]))
            self.runs(((), at, ends), ("const", 1, at), ("store", 1, base, mask, 1), ("load", 2, 1, base, mask), ("stop", 2))

    def test_outs(self):
        self.runs(((3, 0, 3), 0, CONTENTS), ("const", 1, 3), ("out", 1), ("out", 2), ("out", 1), ("stop", 2))

    def test_jumps_and_branches(self):
        self.result(0, ("jump", 2), ("const", 1, 1), ("stop", 1))
        self.result(2, ("branch", 1, 2), ("const", 1, 2), ("stop", 1))
        for word in (1, TOP):
            self.result(word, ("const", 1, word), ("branch", 1, 3), ("const", 1, 2), ("stop", 1))
            self.result(2, ("const", 1, word), ("branch", 1, 2), ("const", 1, 2), ("stop", 1))

    def test_limits(self):
        rows = (("const", 1, 3), ("out", 1), ("store", 1, 0, 3, 1), ("out", 1), ("stop", 1))
        stored = ((7, 8, 9, 3), CONTENTS[1])
        for steps, wanted in ((0, ((), None, CONTENTS)), (1, ((), None, CONTENTS)), (2, ((3,), None, CONTENTS)), (3, ((3,), None, stored)), (4, ((3, 3), None, stored)),
                              (5, ((3, 3), 3, stored)), (6, ((3, 3), 3, stored))):
            self.runs(wanted, *rows, steps=steps)
        self.runs(((), None, CONTENTS), ("jump", 0), steps=1000)
        self.runs(((), None, CONTENTS), ("stop", 0), steps=0)
        self.runs(((), 0, CONTENTS), ("stop", 0), steps=1)

    def test_no_regions(self):
        self.runs(((), 4, ()), ("const", 1, 4), ("store", 0, 0, 0, 1), ("load", 2, 0, 0, 0), ("stop", 2), regions=(), contents=())

    def test_arguments_stay(self):
        contents = ((1, 2, 3, 4), (5, 6))
        code = (REGIONS, (("store", 0, 0, 3, 0), ("stop", 0)))
        self.assertEqual(plain_run(code, contents, 5)[2], ((0, 2, 3, 4), (5, 6)))
        self.assertEqual(contents, ((1, 2, 3, 4), (5, 6)))

    def test_drawn(self):
        ended = 0
        for number in range(3000):
            code = drawn_code(number) if number % 2 else drawn_taken_code(number)
            contents = drawn_contents(code, number)
            steps = random.Random(number).choice([0, 1, 5, 60])
            found = plain_run(code, contents, steps)
            if all(row[0] not in ("load", "store") or row[-2 if row[0] == "load" else 2] + row[-1 if row[0] == "load" else 3] < sum(size for _, size, _ in code[0]) for row in code[1]):
                wanted = run_code(code, contents, steps)
                if wanted is None:
                    self.assertIsNone(found[1])
                else:
                    ended += 1
                    self.assertEqual(found, wanted[:3])
            # A longer run goes on from where a shorter one ended.
            longer = plain_run(code, contents, steps + 1)
            self.assertEqual(longer[0][:len(found[0])], found[0])
            if found[1] is not None:
                self.assertEqual(longer, found)
        self.assertGreater(ended, 300)


if __name__ == "__main__":
    unittest.main()
