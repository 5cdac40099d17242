"""Machine code as bytes (points 6.7 and 6.8)."""

import random
import unittest

from sameclock.code_bytes import read_bytes, write_bytes
from sameclock.code_form import is_code
from sameclock.errors import BadBytes, CodeError
from sameclock.ir import SIGNS
from code_reference import drawn_code, slow_bytes

STOP = ("stop", 0)
ALL = (((0, 4, "public"), (4, 300, "secret")), (
    ("const", 3, 0x04030201), ("op", "mod", 1, 2, 15), ("select", 4, 5, 6, 7), ("load", 8, 9, 500000, 4095), ("store", 10, 127, 1, 11), ("out", 12),
    ("jump", 7), ("branch", 13, 0), ("stop", 14)))
ALL_BYTES = [2, 4, 0, 172, 2, 1, 9, 0, 3, 1, 2, 3, 4, 1, 12, 1, 2, 15, 2, 4, 5, 6, 7, 3, 8, 9, 160, 194, 30, 12, 4, 10, 127, 1, 11, 5, 12, 6, 7, 7, 13, 0, 8, 14]


class TestBytes(unittest.TestCase):
    def both(self, code, wanted):
        self.assertIs(is_code(code), True)
        self.assertEqual(write_bytes(code), wanted)
        self.assertEqual(slow_bytes(code), wanted)
        self.assertEqual(read_bytes(wanted), code)

    def bad(self, row):
        self.assertRaises(BadBytes, read_bytes, row)

    def one(self, *row):
        """The bytes of code that has one row ahead of a stop."""
        found = write_bytes(((), (row, STOP)))
        self.assertEqual(found[:2] + found[-2:], [0, 2, 8, 0])
        self.assertEqual(read_bytes(found), ((), (row, STOP)))
        return found[2:-2]

    def test_least(self):
        self.both(((), (STOP,)), [0, 1, 8, 0])
        self.both(((), (("jump", 0),)), [0, 1, 6, 0])

    def test_all_kinds(self):
        self.both(ALL, ALL_BYTES)

    def test_result_is_a_list_of_integers(self):
        found = write_bytes(ALL)
        self.assertIs(type(found), list)
        self.assertEqual({type(number) for number in found}, {int})
        found.append(7)
        self.assertEqual(write_bytes(ALL), ALL_BYTES)

    def test_arguments_stay(self):
        row = list(ALL_BYTES)
        read_bytes(row)
        self.assertEqual(row, ALL_BYTES)

    def test_rows(self):
        self.assertEqual(self.one("const", 15, 4294967295), [0, 15, 255, 255, 255, 255])
        self.assertEqual(self.one("const", 0, 256), [0, 0, 0, 1, 0, 0])
        for k, sign in enumerate(SIGNS):
            self.assertEqual(self.one("op", sign, 1, 2, 3), [1, k, 1, 2, 3])
        for k in range(13):
            self.assertEqual(self.one("load", 1, 2, 3, 2 ** k - 1), [3, 1, 2, 3, k])
            self.assertEqual(self.one("store", 1, 3, 2 ** k - 1, 2), [4, 1, 3, k, 2])
        self.assertEqual(self.one("branch", 4, 1), [7, 4, 1])

    def test_counts(self):
        for number, wanted in ((0, [0]), (1, [1]), (127, [127]), (128, [128, 1]), (129, [129, 1]), (255, [255, 1]), (256, [128, 2]), (16383, [255, 127]),
                               (16384, [128, 128, 1]), (16385, [129, 128, 1]), (499999, [159, 194, 30]), (500000, [160, 194, 30])):
            self.assertEqual(self.one("load", 1, 2, number, 0), [3, 1, 2] + wanted + [0])
            self.assertEqual(self.one("store", 1, number, 0, 2), [4, 1] + wanted + [0, 2])

    def test_counts_of_rows_and_targets(self):
        for many in (127, 128, 16383, 16384, 100000):
            code = ((), (("out", 1),) * (many - 2) + (("branch", 1, many - 1), ("jump", many - 1)))
            self.assertEqual(write_bytes(code), slow_bytes(code))
            self.assertEqual(read_bytes(write_bytes(code)), code)

    def test_counts_of_regions_and_sizes(self):
        for many in (0, 1, 127, 128, 1000):
            code = (tuple((k, 1, "secret") for k in range(many)), (STOP,))
            self.assertEqual(read_bytes(write_bytes(code)), code)
        for size, wanted in ((1, [1]), (127, [127]), (128, [128, 1]), (4095, [255, 31]), (4096, [128, 32])):
            self.both((((0, size, "public"),), (STOP,)), [1] + wanted + [0, 1, 8, 0])

    def test_cut_short_at_each_place(self):
        for end in range(len(ALL_BYTES)):
            self.bad(ALL_BYTES[:end])

    def test_behind_the_end(self):
        for more in ([0], [8, 0], [255], ALL_BYTES):
            self.bad(ALL_BYTES + more)

    def test_counts_that_end_with_0(self):
        for row in ([128, 0, 1, 8, 0], [0, 129, 0, 8, 0], [0, 1, 6, 128, 0], [1, 132, 0, 0, 1, 8, 0], [0, 2, 3, 1, 2, 131, 0, 0, 8, 0],
                    [0, 2, 3, 1, 2, 131, 128, 0, 0, 8, 0], [0, 2, 7, 1, 128, 0, 8, 0], [0, 128, 128, 0, 8, 0]):
            self.bad(row)
        self.assertEqual(read_bytes([0, 2, 3, 1, 2, 128, 128, 1, 0, 8, 0])[1][0], ("load", 1, 2, 16384, 0))

    def test_very_long_counts(self):
        for row in ([128] * 50, [255] * 100000 + [1], [0] + [255] * 20 + [1], [0, 2, 3, 1, 2] + [255] * 30 + [1, 0, 8, 0]):
            self.bad(row)

    def test_bytes_out_of_bounds(self):
        self.bad([1, 1, 2, 1, 8, 0])
        self.bad([1, 1, 255, 1, 8, 0])
        for word in (9, 10, 255):
            self.bad([0, 1, word, 0])
            self.bad([0, 2, word, 0, 8, 0])
        self.bad([0, 2, 1, 13, 1, 2, 3, 8, 0])
        for number in (16, 17, 255):
            self.bad([0, 1, 8, number])
            self.bad([0, 2, 0, number, 1, 1, 1, 1, 8, 0])
            for at in range(3):
                row = [0, 2, 1, 0, 1, 2, 3, 8, 0]
                row[4 + at] = number
                self.bad(row)
            for at in range(4):
                row = [0, 2, 2, 1, 2, 3, 4, 8, 0]
                row[3 + at] = number
                self.bad(row)
            for row in ([0, 2, 3, number, 2, 3, 0, 8, 0], [0, 2, 3, 1, number, 3, 0, 8, 0], [0, 2, 4, number, 3, 0, 2, 8, 0], [0, 2, 4, 1, 3, 0, number, 8, 0],
                        [0, 2, 5, number, 8, 0], [0, 2, 7, number, 0, 8, 0]):
                self.bad(row)
        for k in (13, 14, 32, 255):
            self.bad([0, 2, 3, 1, 2, 3, k, 8, 0])
            self.bad([0, 2, 4, 1, 3, k, 2, 8, 0])

    def test_counts_out_of_bounds(self):
        self.bad([1, 0, 0, 1, 8, 0])
        self.bad([1, 129, 32, 0, 1, 8, 0])
        self.bad([0, 2, 3, 1, 2, 161, 194, 30, 0, 8, 0])
        self.bad([0, 2, 4, 1, 161, 194, 30, 0, 2, 8, 0])
        self.bad([0, 1, 6, 1])
        self.bad([0, 2, 7, 1, 2, 8, 0])
        self.bad([0, 2, 6, 2, 8, 0])
        self.assertEqual(read_bytes([0, 2, 6, 1, 8, 0]), ((), (("jump", 1), STOP)))

    def test_bases_out_of_bounds(self):
        self.bad([124] + [128, 32, 0] * 124 + [1, 8, 0])
        self.assertEqual(len(read_bytes([123] + [128, 32, 0] * 123 + [1, 8, 0])[0]), 123)

    def test_too_many(self):
        self.bad([233, 7] + [1, 0] * 1001 + [1, 8, 0])
        self.assertEqual(len(read_bytes([232, 7] + [1, 0] * 1000 + [1, 8, 0])[0]), 1000)
        self.bad([0, 161, 141, 6] + [5, 0] * 100000 + [8, 0])
        self.assertEqual(len(read_bytes([0, 160, 141, 6] + [5, 0] * 99999 + [8, 0])[1]), 100000)

    def test_rows_that_do_not_end(self):
        self.bad([])
        self.bad([0])
        self.bad([0, 0])
        self.bad([0, 1, 5, 0])
        self.bad([0, 1, 7, 0, 0])
        self.bad([0, 1, 0, 0, 0, 0, 0, 0])
        self.bad([0, 2, 8, 0, 5, 0])

    def test_error(self):
        self.assertTrue(issubclass(BadBytes, CodeError))

    def test_drawn(self):
        for number in range(1000):
            code = drawn_code(number)
            self.assertEqual(write_bytes(code), slow_bytes(code))
            self.assertEqual(read_bytes(write_bytes(code)), code)

    def test_drawn_with_a_byte_changed(self):
        bad = 0
        for number in range(4000):
            chance = random.Random(number)
            row = write_bytes(drawn_code(chance.randrange(10 ** 6)))
            at = chance.randrange(len(row))
            change = chance.randrange(4)
            if change == 0:
                row[at] = chance.randrange(256)
            elif change == 1:
                row[at] = (row[at] + chance.choice([-1, 1, 128])) % 256
            elif change == 2:
                del row[at]
            else:
                row.insert(at, chance.choice([0, 1, 8, 128, 255]))
            try:
                code = read_bytes(row)
            except BadBytes:
                bad += 1
                continue
            self.assertIs(is_code(code), True)
            self.assertEqual(slow_bytes(code), row)
        self.assertGreater(bad, 500)
        self.assertLess(bad, 3900)


if __name__ == "__main__":
    unittest.main()
