"""The form of machine code (point 6.1)."""

import unittest

from sameclock.code_form import REGISTERS, is_code, reads, writes
from sameclock.ir import SIGNS

STOP = ("stop", 0)
GOOD = (
    ((0, 4, "public"), (4, 1, "secret"), (5, 4096, "secret")),
    (("const", 0, 4294967295), ("op", "<=", 1, 2, 15), ("select", 3, 4, 5, 6), ("load", 7, 8, 500000, 4095), ("store", 9, 0, 0, 10),
     ("out", 11), ("branch", 12, 0), ("jump", 9), ("branch", 13, 8), ("stop", 14)))
STRANGE = (None, True, False, "", "public", (), ((),), 1, -1, [1], {}, 2 ** 40)


def put(thing, way, part):
    """A thing with one part changed."""
    if not way:
        return part
    return thing[:way[0]] + (put(thing[way[0]], way[1:], part),) + thing[way[0] + 1:]


class TestCode(unittest.TestCase):
    def good(self, thing):
        self.assertIs(is_code(thing), True, thing)

    def bad(self, thing):
        self.assertIs(is_code(thing), False, thing)

    def row(self, good, *row):
        """Whether code may have this row, which stands ahead of a stop."""
        (self.good if good else self.bad)(((), (row, STOP)))

    def test_registers(self):
        self.assertEqual(REGISTERS, 16)
        self.assertNotIsInstance(REGISTERS, bool)

    def test_good(self):
        self.good(GOOD)
        self.good(((), (STOP,)))
        self.good(((), (("jump", 0),)))

    def test_no_code(self):
        for thing in STRANGE:
            self.bad(thing)
            self.bad((thing, (STOP,)) if thing != () else None)
            self.bad(((), thing))
            self.bad(((thing,), (STOP,)))
            self.bad(((), (thing, STOP)))
            self.bad(((), (STOP, thing)))
        self.bad(((), (STOP,), ()))
        self.bad(([], (STOP,)))
        self.bad(((), [STOP]))
        self.bad([(), (STOP,)])

    def test_every_part_of_another_kind(self):
        ways = [(0, k) for k in range(3)] + [(0, k, j) for k in range(3) for j in range(3)]
        ways += [(1, k) for k in range(10)] + [(1, k, j) for k in range(10) for j in range(len(GOOD[1][k]))]
        for way in ways:
            part = GOOD
            for step in way:
                part = part[step]
            for thing in (None, True, False, "", (), (1,), [], -1, 2 ** 32, "const "):
                self.bad(put(GOOD, way, thing))
            if isinstance(part, tuple):
                self.bad(put(GOOD, way, list(part)))
                self.bad(put(GOOD, way, part + (0,)))
                self.bad(put(GOOD, way, part[:-1]))

    def test_truths(self):
        for way in ((0, 0, 0), (0, 1, 1), (1, 0, 1), (1, 4, 2), (1, 4, 3), (1, 6, 2)):
            self.bad(put(GOOD, way, False))
            self.bad(put(GOOD, way, True))

    def test_bases(self):
        self.bad((((1, 4, "public"),), (STOP,)))
        self.bad((((0, 4, "public"), (5, 4, "public")), (STOP,)))
        self.bad((((0, 4, "public"), (3, 4, "public")), (STOP,)))
        self.bad((((0, 4, "public"), (0, 4, "public")), (STOP,)))
        full = tuple((k * 4096, 4096, "public") for k in range(122))
        self.assertEqual(full[-1][0] + 4096, 499712)
        self.good((full + ((499712, 288, "secret"), (500000, 4096, "secret")), (STOP,)))
        self.bad((full + ((499712, 289, "secret"), (500001, 1, "secret")), (STOP,)))
        self.good((full + ((499712, 289, "secret"),), (STOP,)))

    def test_sizes(self):
        for size, good in ((0, False), (1, True), (3, True), (4096, True), (4097, False), (-1, False), (True, False)):
            self.assertIs(is_code((((0, size, "public"),), (STOP,))), good)

    def test_labels(self):
        for label, good in (("public", True), ("secret", True), ("Public", False), ("", False), (None, False), (0, False), (True, False)):
            self.assertIs(is_code((((0, 1, label),), (STOP,))), good)

    def test_numbers_of_regions(self):
        regions = tuple((k, 1, "secret") for k in range(1001))
        self.good(((), (STOP,)))
        self.good((regions[:1000], (STOP,)))
        self.bad((regions, (STOP,)))

    def test_numbers_of_rows(self):
        self.bad(((), ()))
        self.good(((), (("out", 1),) * 99999 + (STOP,)))
        self.bad(((), (("out", 1),) * 100000 + (STOP,)))

    def test_register_numbers(self):
        for number in (0, 1, 15):
            self.row(True, "out", number)
        for number in (-1, 16, True, None, "1", (1,)):
            self.row(False, "out", number)
        for kind, row in (("const", (15, 0)), ("op", ("+", 15, 15, 15)), ("select", (15, 15, 15, 15)), ("load", (15, 15, 3, 1)),
                          ("store", (15, 3, 1, 15)), ("branch", (15, 0)), ("stop", (15,))):
            self.row(True, kind, *row)
            for at, part in enumerate(row):
                if part == 15:
                    for wrong in (16, -1, True):
                        self.row(False, kind, *row[:at], wrong, *row[at + 1:])

    def test_words(self):
        for number, good in ((0, True), (4294967295, True), (4294967296, False), (-1, False), (True, False), ("1", False)):
            self.row(good, "const", 1, number)

    def test_signs(self):
        for sign in SIGNS:
            self.row(True, "op", sign, 1, 2, 3)
        for sign in ("", "!", ">", "=", "/", "Div", None, 0, True, ("+",)):
            self.row(False, "op", sign, 1, 2, 3)

    def test_masks(self):
        good = {2 ** k - 1 for k in range(13)}
        for mask in list(range(-2, 600)) + [1023, 1024, 2047, 2048, 4094, 4095, 4096, 8191, True, False, None]:
            wanted = mask in good and not isinstance(mask, bool)
            self.row(wanted, "load", 1, 2, 3, mask)
            self.row(wanted, "store", 1, 3, mask, 2)

    def test_bases_in_rows(self):
        for base, good in ((0, True), (1, True), (500000, True), (500001, False), (-1, False), (True, False), ("0", False)):
            self.row(good, "load", 1, 2, base, 0)
            self.row(good, "store", 1, base, 0, 2)

    def test_targets(self):
        for target, good in ((0, True), (1, True), (2, False), (-1, False), (True, False), (None, False)):
            self.row(good, "jump", target)
            self.row(good, "branch", 1, target)

    def test_lengths_and_words(self):
        for row in GOOD[1]:
            self.bad(((), (row[:-1],) + (STOP,) * 10))
            self.bad(((), (row + (0,),) + (STOP,) * 10))
            self.bad(((), ((row[0] + " ",) + row[1:],) + (STOP,) * 10))
        self.row(False, "copy", 1, 2)
        self.row(False, "nop")
        self.row(False)
        self.row(False, "branch", 1, 0, 1)

    def test_last_rows(self):
        for row in GOOD[1]:
            (self.good if row[0] in ("jump", "stop") else self.bad)(((), (STOP,) * 9 + (row,)))


class TestRegisters(unittest.TestCase):
    def test_reads(self):
        for row, wanted in ((("const", 1, 5), ()), (("op", "+", 1, 7, 3), (3, 7)), (("op", "+", 1, 3, 3), (3,)), (("op", "+", 3, 3, 1), (1, 3)),
                            (("select", 1, 9, 2, 4), (2, 4, 9)), (("select", 1, 2, 2, 1), (1, 2)), (("select", 1, 5, 5, 5), (5,)),
                            (("load", 1, 5, 6, 7), (5,)), (("store", 8, 6, 7, 5), (5, 8)), (("store", 5, 6, 7, 5), (5,)), (("out", 4), (4,)),
                            (("jump", 3), ()), (("branch", 3, 2), (3,)), (("stop", 15), (15,))):
            self.assertEqual(reads(row), wanted)

    def test_writes(self):
        for row, wanted in ((("const", 1, 5), 1), (("op", "+", 1, 7, 3), 1), (("op", "+", 0, 0, 0), 0), (("select", 15, 9, 2, 4), 15),
                            (("load", 2, 5, 6, 7), 2), (("store", 8, 6, 7, 5), -1), (("out", 4), -1), (("jump", 3), -1),
                            (("branch", 3, 2), -1), (("stop", 15), -1)):
            self.assertEqual(writes(row), wanted)


if __name__ == "__main__":
    unittest.main()
