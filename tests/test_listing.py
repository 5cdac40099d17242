"""Machine code as texts (points 6.9 and 6.10)."""

import random
import unittest

from sameclock.code_form import is_code
from sameclock.errors import BadListing, CodeError
from sameclock.ir import SIGNS
from sameclock.listing import read_listing, write_listing
from code_reference import drawn_code, slow_listing

STOP = ("stop", 0)
ALL = (((0, 4, "public"), (4, 300, "secret")), (
    ("const", 3, 4294967295), ("op", "+", 1, 2, 2), ("select", 4, 5, 6, 7), ("op", "mod", 0, 15, 1), ("load", 5, 1, 64, 15), ("store", 10, 127, 1, 11),
    ("out", 12), ("jump", 7), ("branch", 13, 0), ("stop", 14)))
ALL_TEXT = """region 4 public
region 300 secret
0: const 3 4294967295
1: op + 1 2 2
2: select 4 5 6 7
3: op mod 0 15 1
4: load 5 1 64 15
5: store 10 127 1 11
6: out 12
7: jump 7
8: branch 13 0
9: stop 14
"""


class TestListing(unittest.TestCase):
    def both(self, code, wanted):
        self.assertIs(is_code(code), True)
        self.assertEqual(write_listing(code), wanted)
        self.assertEqual(read_listing(wanted), code)
        self.assertEqual(slow_listing(wanted), code)

    def bad(self, number, text):
        self.assertEqual(slow_listing(text), number, text[:200])
        with self.assertRaises(BadListing) as found:
            read_listing(text)
        self.assertEqual(found.exception.row, number, text[:200])
        self.assertIs(type(found.exception.row), int)

    def instead(self, number, row):
        """The row with this number of the text of all kinds is another one; it is the first that is wrong."""
        rows = ALL_TEXT.split("\n")
        rows[number - 1] = row
        self.bad(number, "\n".join(rows))

    def test_least(self):
        self.both(((), (STOP,)), "0: stop 0\n")
        self.both(((), (("jump", 0),)), "0: jump 0\n")

    def test_all_kinds(self):
        self.both(ALL, ALL_TEXT)

    def test_signs(self):
        for sign in SIGNS:
            self.both(((), (("op", sign, 1, 2, 15), STOP)), f"0: op {sign} 1 2 15\n1: stop 0\n")

    def test_many_rows(self):
        code = (tuple((k, 1, "secret") for k in range(1000)), (("out", 1),) * 99999 + (STOP,))
        self.assertEqual(read_listing(write_listing(code)), code)

    def test_wrong_words(self):
        for number in range(3, 13):
            row = ALL_TEXT.split("\n")[number - 1].split(" ")
            for word in ("Const", "copy", "nop", "", "region", "stops", "0", "op:"):
                self.instead(number, " ".join([row[0], word] + row[2:]))

    def test_wrong_signs(self):
        for sign in ("!", ">", "=", "DIV", "", "1", "//", "+ ", "add"):
            self.instead(4, f"1: op {sign} 1 2 2")

    def test_wrong_labels(self):
        for label in ("Public", "secrets", "", "0", "private", "public secret"):
            self.instead(1, f"region 4 {label}")
            self.instead(2, f"region 4 {label}")

    def test_wrong_numbers(self):
        for number, before, after in ((1, "region ", " public"), (3, "0: const ", " 1"), (3, "0: const 1 ", ""), (5, "2: select 4 5 ", " 7"), (7, "4: load 5 1 ", " 15"),
                                      (7, "4: load 5 1 64 ", ""), (9, "6: out ", ""), (10, "7: jump ", ""), (11, "8: branch 13 ", ""), (12, "9: stop ", "")):
            for word in ("01", "00", "+1", "-1", "-0", "1.0", "0x1", "1_0", "", " 1", "1 ", "one", "\u0661", "\u00b2", "9" * 5000, "1\t", "\r1"):
                self.instead(number, before + word + after)

    def test_wrong_spaces(self):
        rows = ALL_TEXT.split("\n")[:-1]
        for number, row in enumerate(rows, 1):
            for wrong in (row + " ", " " + row, row.replace(" ", "  ", 1), row.replace(" ", "\t", 1), row + "\r", row.replace(" ", "", 1), row + "\f",
                          "  ".join(row.rsplit(" ", 1)), row.replace(": ", " : ") if ":" in row else row + ":", row + " 1"):
                self.instead(number, wrong)

    def test_parts_left_out(self):
        rows = ALL_TEXT.split("\n")[:-1]
        for number, row in enumerate(rows, 1):
            words = row.split(" ")
            for end in range(1, len(words)):
                self.instead(number, " ".join(words[:end]))
            self.instead(number, row + " 0")

    def test_wrong_indexes(self):
        for number in range(3, 13):
            row = ALL_TEXT.split("\n")[number - 1]
            rest = row.split(": ", 1)[1]
            for index in (f"{number - 2}: ", f"{number - 4}: ", f"0{number - 3}: ", f"+{number - 3}: ", "", f"{number - 3} ", f"{number - 3}:", ": ", f"{number - 3}:: "):
                self.instead(number, index + rest)

    def test_numbers_out_of_bounds(self):
        for number, row in ((1, "region 0 public"), (1, "region 4097 public"), (3, "0: const 16 1"), (3, "0: const 1 4294967296"), (4, "1: op + 16 1 1"),
                            (4, "1: op + 1 16 1"), (4, "1: op + 1 1 16"), (5, "2: select 16 1 1 1"), (5, "2: select 1 16 1 1"), (5, "2: select 1 1 16 1"),
                            (5, "2: select 1 1 1 16"), (7, "4: load 16 1 64 15"), (7, "4: load 1 16 64 15"), (7, "4: load 1 1 500001 15"), (7, "4: load 1 1 1 2"),
                            (7, "4: load 1 1 1 8191"), (7, "4: load 1 1 1 4096"), (8, "5: store 16 1 1 1"), (8, "5: store 1 500001 1 1"), (8, "5: store 1 1 5 1"),
                            (8, "5: store 1 1 1 16"), (9, "6: out 16"), (10, "7: jump 100000"), (11, "8: branch 16 0"), (11, "8: branch 1 100000"), (12, "9: stop 16")):
            self.instead(number, row)

    def test_greatest_numbers(self):
        self.both((((0, 4096, "secret"),), (("load", 15, 15, 500000, 4095), ("store", 15, 500000, 4095, 15), ("const", 15, 4294967295), ("stop", 15))),
                  "region 4096 secret\n0: load 15 15 500000 4095\n1: store 15 500000 4095 15\n2: const 15 4294967295\n3: stop 15\n")

    def test_regions_behind_code(self):
        self.instead(4, "region 4 public")
        self.bad(2, "0: stop 0\nregion 4 public\n")
        self.bad(2, "0: stop 0\nregion 4 public\n1: stop 0\n")

    def test_too_many_regions(self):
        row = "region 1 secret\n"
        self.bad(1001, row * 1001 + "0: stop 0\n")
        self.bad(1001, row * 1001)
        self.bad(1001, row * 1000)
        self.assertEqual(len(read_listing(row * 1000 + "0: stop 0\n")[0]), 1000)

    def test_bases_that_are_too_great(self):
        row = "region 4096 secret\n"
        self.assertEqual(len(read_listing(row * 123 + "0: stop 0\n")[0]), 123)
        self.bad(124, row * 124 + "0: stop 0\n")
        self.assertEqual(len(read_listing(row * 122 + "region 288 public\nregion 4096 public\n0: stop 0\n")[0]), 124)
        self.bad(124, row * 122 + "region 289 public\nregion 1 public\n0: stop 0\n")
        self.bad(125, row * 122 + "region 288 public\nregion 1 public\nregion 1 public\n0: stop 0\n")

    def test_empty_rows(self):
        self.bad(1, "\n")
        self.bad(1, "\n" + ALL_TEXT)
        self.bad(13, ALL_TEXT + "\n")
        for number in range(1, 13):
            self.instead(number, "")

    def test_last_row_without_a_newline(self):
        self.bad(1, "0: stop 0")
        self.bad(12, ALL_TEXT[:-1])
        self.bad(13, ALL_TEXT + "10: stop 0")
        self.bad(13, ALL_TEXT + " ")
        self.bad(1, "region 4 public")
        self.bad(1, " ")

    def test_text_is_cut_short(self):
        for end in range(len(ALL_TEXT)):
            text = ALL_TEXT[:end]
            try:
                read_listing(text)
            except BadListing as error:
                self.assertEqual(error.row, slow_listing(text))
            else:
                self.assertEqual(text.split("\n")[-2][:4], "7: j")

    def test_ends_too_early(self):
        self.bad(1, "")
        self.bad(2, "region 4 public\n")
        self.bad(2, "0: out 1\n")
        self.bad(2, "0: branch 1 0\n")
        self.bad(3, "0: stop 1\n1: const 1 1\n")

    def test_targets_that_are_no_rows(self):
        self.bad(2, "0: jump 1\n")
        self.bad(3, "0: jump 2\n1: stop 0\n")
        self.bad(3, "0: branch 1 2\n1: stop 0\n")
        self.bad(4, "region 1 public\n0: branch 1 99999\n1: stop 0\n")
        self.bad(1, "0: jump 100000\n")
        self.bad(3, "0: jump 99999\n1: stop 0\n2: jump 100000\n3: stop 0\n")
        self.both(((), (("jump", 1), STOP)), "0: jump 1\n1: stop 0\n")

    def test_earlier_row_is_told(self):
        self.bad(2, "0: jump 9\n1: stop 16\n2: out 1")
        self.bad(1, "0: stop x\nregion 1 public\n")

    def test_last_row_that_code_may_have(self):
        rows = "".join(f"{k}: out 1\n" for k in range(99999))
        self.assertEqual(len(read_listing(rows + "99999: jump 99999\n")[1]), 100000)
        self.bad(100000, rows + "99999: out 1\n")
        self.bad(100000, rows + "99999: branch 1 0\n")
        self.bad(100001, rows + "99999: stop 1\n100000: stop 1\n")
        self.bad(100001, "region 1 public\n" + rows + "99999: out 1\n")
        self.bad(100000, rows)

    def test_error(self):
        self.assertTrue(issubclass(BadListing, CodeError))

    def test_drawn(self):
        for number in range(1000):
            code = drawn_code(number)
            text = write_listing(code)
            self.assertEqual(read_listing(text), code)
            self.assertEqual(slow_listing(text), code)

    def test_drawn_with_a_change(self):
        bad = 0
        for number in range(4000):
            chance = random.Random(number)
            text = write_listing(drawn_code(chance.randrange(10 ** 6)))
            at = chance.randrange(len(text))
            more = chance.choice(list("0123456789 :\n+-abceilnoprstu") + ["region 3 public\n", "0: stop 0\n"])
            text = text[:at] + more * chance.randrange(2) + text[at + chance.randrange(2):]
            if chance.randrange(5) == 0:
                rows = text.split("\n")
                chance.shuffle(rows)
                text = "\n".join(rows)
            wanted = slow_listing(text)
            if isinstance(wanted, int):
                bad += 1
                self.bad(wanted, text)
            else:
                self.assertEqual(read_listing(text), wanted)
        self.assertGreater(bad, 1000)
        self.assertLess(bad, 3900)


if __name__ == "__main__":
    unittest.main()
