"""The intermediate form (points 4.1 to 4.4)."""

import random
import unittest

from sameclock.ir import SIGNS, apply, is_ir, run_ir, size_of
from reference import operate

TOP = 2 ** 32 - 1
EDGES = [0, 1, 2, 3, 31, 32, 33, 63, 64, 65535, 65536, 2 ** 31 - 1, 2 ** 31, 2 ** 31 + 1, TOP - 1, TOP]
ARRAYS = (("a", 5, "public"), ("b", 1, "secret"))
GOOD_ROWS = (
    ("const", 0, 7), ("copy", 1, 0), ("op", "+", 2, 0, 1), ("select", 3, 0, 1, 2), ("load", 4, 1, 0), ("store", 0, 1, 2),
    ("out", 3),
)


def program(rows, arrays=ARRAYS, params=2):
    return (arrays, params, (tuple(rows) + (("stop", 0),),))


class TestApply(unittest.TestCase):
    def test_signs(self):
        self.assertEqual(SIGNS, ("+", "-", "*", "&", "|", "^", "<<", ">>", "==", "<", "<=", "div", "mod"))

    def test_edges(self):
        for sign in SIGNS:
            for a in EDGES:
                for b in EDGES:
                    found = apply(sign, a, b)
                    self.assertEqual(found, operate(sign, a, b), (sign, a, b))
                    self.assertIs(type(found), int)

    def test_by_hand(self):
        for sign, a, b, word in (
            ("+", TOP, 1, 0), ("+", TOP, TOP, TOP - 1), ("-", 0, 1, TOP), ("-", 3, 5, TOP - 1), ("*", TOP, TOP, 1),
            ("*", 65536, 65536, 0), ("&", 12, 10, 8), ("|", 12, 10, 14), ("^", 12, 10, 6), ("<<", 1, 31, 2 ** 31),
            ("<<", 1, 32, 1), ("<<", 3, 33, 6), ("<<", TOP, 31, 2 ** 31), ("<<", 5, TOP, 2 ** 31), (">>", TOP, 31, 1),
            (">>", TOP, 32, TOP), (">>", 6, 33, 3), (">>", 5, 64, 5), ("==", 4, 4, 1), ("==", 4, 5, 0), ("<", 4, 5, 1),
            ("<", 5, 5, 0), ("<", TOP, 0, 0), ("<=", 5, 5, 1), ("<=", 6, 5, 0), ("<=", 0, TOP, 1), ("div", 7, 2, 3),
            ("div", 7, 0, 0), ("div", 0, 0, 0), ("div", 6, 7, 0), ("div", TOP, 1, TOP), ("mod", 7, 2, 1), ("mod", 7, 0, 7),
            ("mod", 0, 0, 0), ("mod", TOP, TOP, 0), ("mod", 6, 7, 6),
        ):
            self.assertEqual(apply(sign, a, b), word, (sign, a, b))

    def test_random(self):
        chance = random.Random(1)
        for _ in range(3000):
            sign, a, b = chance.choice(SIGNS), chance.randrange(TOP + 1), chance.randrange(TOP + 1)
            self.assertEqual(apply(sign, a, b), operate(sign, a, b), (sign, a, b))

    def test_sizes(self):
        wanted = {1: 1, 2: 2, 3: 4, 4: 4, 5: 8, 8: 8, 9: 16, 16: 16, 17: 32, 32: 32, 33: 64, 63: 64, 64: 64}
        for length in range(1, 65):
            size = size_of(length)
            self.assertEqual(size & (size - 1), 0)
            self.assertTrue(length <= size < 2 * length)
            self.assertEqual(size, wanted.get(length, size))


class TestForm(unittest.TestCase):
    def good(self, thing):
        self.assertIs(is_ir(thing), True, thing)

    def wrong(self, thing):
        self.assertIs(is_ir(thing), False, thing)

    def test_good(self):
        self.good(((), 0, ((("stop", 0),),)))
        self.good(((), 100001, ((("stop", 100000),),)))
        self.good((ARRAYS, 2, (GOOD_ROWS + (("jump", 1),), (("branch", 0, 0, 1),), (("stop", 4),))))
        self.good(program(GOOD_ROWS))
        for sign in SIGNS:
            self.good(program([("op", sign, 0, 0, 100000)]))
        for word in (0, 1, TOP):
            self.good(program([("const", 0, word)]))
        for length in (1, 2, 63, 64):
            for label in ("public", "secret"):
                self.good(program([("load", 0, 0, 0)], (("x", length, label),)))
        self.good(program([], (("x", 1, "public"), ("x", 1, "public"))))

    def test_no_program(self):
        for thing in (None, True, False, 0, 1, "", "abc", (), (1,), ((), 0), ((), 0, (), ()), ((), 0, ()), ("", 0, ()),
                      ((), 0, ((),)), ((), 0, "ab"), ((), 0, ("ab",)), ((), 0, (("stop", 0),)), ((), 0, None),
                      (None, 0, ((("stop", 0),),)), (0, 0, ((("stop", 0),),)), ("", 0, ((("stop", 0),),)),
                      ((), 0, ((("stop", 0),),), ()), ((), 0, ((None,),)), ((), 0, ((7,),)), ((), 0, (("stop",),)),
                      ((), 0, (((),),)), ((), 0, (None,)), ((), 0, (7,)), ((), 0, (True,)), ((), 0, (((("stop", 0),),),))):
            self.wrong(thing)

    def test_params(self):
        for params in (None, True, False, -1, 100002, 2 ** 70, "1", (), (1,)):
            self.wrong(((), params, ((("stop", 0),),)))

    def test_arrays(self):
        for array in ((), ("x", 1), ("x", 1, "public", 0), ("x", 0, "public"), ("x", 65, "public"), ("x", -1, "public"),
                      ("x", True, "public"), ("x", "1", "public"), ("x", None, "public"), (1, 1, "public"), (None, 1, "public"),
                      (("x",), 1, "public"), ("x", 1, "Public"), ("x", 1, ""), ("x", 1, None), ("x", 1, True), ("x", 1, ("public",)),
                      (1, "x", "public"), ("public", "x", 1), "abc", None, 3):
            self.wrong(program([], (array,)))
            self.wrong(program([], (("y", 2, "secret"), array)))

    def test_each_part_of_each_row(self):
        form = {
            "const": ("register", "word"), "copy": ("register", "register"), "op": ("sign", "register", "register", "register"),
            "select": ("register",) * 4, "load": ("register", "array", "register"), "store": ("array", "register", "register"),
            "out": ("register",), "jump": ("block",), "branch": ("register", "block", "block"), "stop": ("register",),
        }
        right = {"register": 3, "word": TOP, "sign": "mod", "array": 1, "block": 1}
        wrong = {
            "register": (-1, 100001, 2 ** 40, None, True, False, "0", (0,), ()),
            "word": (-1, TOP + 1, 2 ** 64, None, True, False, "0", (0,)),
            "sign": ("/", "!", "", "DIV", "<<<", ">", 0, None, True, ("+",), ">="),
            "array": (-1, 2, 100, None, True, False, "0", "a", (0,)),
            "block": (-1, 2, 100, None, True, False, "0", (0,)),
        }
        for word, kinds in form.items():
            row = (word,) + tuple(right[kind] for kind in kinds)

            def put(made):
                if word in ("jump", "branch", "stop"):
                    return (ARRAYS, 0, ((("const", 0, 1), made), (("stop", 0),)))
                return (ARRAYS, 0, ((made, ("stop", 0)), (("stop", 0),)))

            self.good(put(row))
            self.wrong(put(row[:-1]))
            self.wrong(put(row + (0,)))
            self.wrong(put(row[1:]))
            self.wrong(put((word.upper(),) + row[1:]))
            self.wrong(put((("x",),) + row[1:]))
            self.wrong(put(((word,),) + row[1:]))
            for other in (None, True, 0, "", "nop"):
                self.wrong(put((other,) + row[1:]))
            for other in form:
                if len(form[other]) != len(kinds):
                    self.wrong(put((other,) + row[1:]))
            for at, kind in enumerate(kinds):
                for bad in wrong[kind]:
                    self.wrong(put(row[:at + 1] + (bad,) + row[at + 2:]))

    def test_no_arrays(self):
        self.wrong(program([("load", 0, 0, 0)], ()))
        self.wrong(program([("store", 0, 0, 0)], ()))

    def test_last_rows(self):
        for row in GOOD_ROWS:
            self.wrong((ARRAYS, 0, ((row,),)))
            self.wrong((ARRAYS, 0, ((("stop", 0),), (row,))))
            self.wrong((ARRAYS, 0, ((("stop", 0), row),)))
        for row in (("jump", 0), ("branch", 0, 0, 0), ("stop", 0)):
            self.good((ARRAYS, 0, ((row,),)))
            self.good((ARRAYS, 0, ((("out", 1), row),)))
            self.wrong((ARRAYS, 0, ((row, row),)))
            self.wrong((ARRAYS, 0, ((row, ("out", 0), ("stop", 0)),)))
            self.wrong((ARRAYS, 0, ((row, ("out", 0)),)))

    def test_deep_things(self):
        thing = ()
        for _ in range(500):
            thing = (thing,)
        self.wrong(thing)
        self.wrong((thing, 0, ((("stop", 0),),)))
        self.wrong(program([("const", 0, thing)]))
        self.wrong(program([(thing, 0, 1)]))
        self.wrong(program([("op", thing, 0, 1, 1)]))
        self.wrong(program([], (("x", 1, thing),)))


class TestRun(unittest.TestCase):
    def gives(self, rows, inputs, outs, result, arrays=(), contents=(), ends=()):
        """A block of rows that puts things out; its result is register 0."""
        made = (arrays, len(inputs), (tuple(rows) + (("stop", 0),),))
        self.assertTrue(is_ir(made))
        self.assertEqual(run_ir(made, inputs, contents, 1000), (outs, result, ends))

    def test_rows(self):
        self.gives([], (5,), (), 5)
        self.gives([], (), (), 0)
        self.gives([("const", 0, TOP)], (5,), (), TOP)
        self.gives([("copy", 0, 1)], (5, 6), (), 6)
        self.gives([("copy", 1, 0), ("out", 1), ("out", 0), ("out", 9)], (5, 6), (5, 5, 0), 5)
        for sign in SIGNS:
            for a, b in ((7, 2), (2, 7), (TOP, 33), (5, 0), (3, 3)):
                self.gives([("op", sign, 0, 1, 2)], (9, a, b), (), operate(sign, a, b))
                self.gives([("op", sign, 0, 0, 2)], (a, 1, b), (), operate(sign, a, b))
                self.gives([("op", sign, 0, 2, 0)], (b, 1, a), (), operate(sign, a, b))
        self.gives([("select", 0, 1, 2, 3)], (9, 1, 5, 6), (), 5)
        self.gives([("select", 0, 1, 2, 3)], (9, TOP, 5, 6), (), 5)
        self.gives([("select", 0, 1, 2, 3)], (9, 0, 5, 6), (), 6)
        self.gives([("select", 0, 0, 0, 1)], (4, 5), (), 4)

    def test_loads_and_stores(self):
        arrays = (("a", 5, "public"), ("b", 1, "secret"), ("c", 4, "public"))
        contents = ((10, 11, 12, 13, 14), (20,), (30, 31, 32, 33))
        for at in (0, 1, 4, 5, 6, 7, 8, 9, 12, 13, 16, TOP, TOP - 3):
            cell = (contents[0] + (0, 0, 0))[at % 8]
            self.gives([("load", 0, 0, 0)], (at,), (), cell, arrays, contents, contents)
            self.gives([("load", 0, 1, 0)], (at,), (), 20, arrays, contents, contents)
            self.gives([("load", 0, 2, 0)], (at,), (), 30 + at % 4, arrays, contents, contents)
            ends = tuple(99 if k == at % 8 else word for k, word in enumerate(contents[0]))
            self.gives([("store", 0, 0, 1), ("load", 0, 0, 0)], (at, 99), (), 99, arrays, contents, (ends,) + contents[1:])
            self.gives([("store", 1, 0, 1)], (at, 99), (), at, arrays, contents, (contents[0], (99,), contents[2]))
            ends = tuple(99 if k == at % 4 else word for k, word in enumerate(contents[2]))
            self.gives([("store", 2, 0, 1)], (at, 99), (), at, arrays, contents, contents[:2] + (ends,))
        self.gives([("store", 0, 1, 2), ("load", 3, 0, 4), ("out", 3)], (0, 5, 77, 0, 13), (77,), 0, arrays, contents, contents)

    def test_blocks(self):
        made = ((), 2, (
            (("branch", 0, 2, 1),),
            (("out", 1), ("jump", 3)),
            (("out", 0), ("const", 0, 0), ("jump", 0)),
            (("stop", 1),)))
        self.assertEqual(run_ir(made, (7, 8), (), 100), ((7, 8), 8, ()))
        self.assertEqual(run_ir(made, (0, 8), (), 100), ((8,), 8, ()))
        self.assertEqual(run_ir(made, (TOP, 8), (), 100), ((TOP, 8), 8, ()))

    def test_steps(self):
        made = ((), 1, (
            (("const", 1, 1), ("jump", 1)),
            (("op", "-", 0, 0, 1), ("out", 0), ("branch", 0, 1, 2)),
            (("const", 5, 1), ("stop", 5))))
        for count in (1, 2, 5):
            steps = 2 + 3 * count + 2
            outs = tuple(reversed(range(count)))
            for more in (0, 1, 50):
                self.assertEqual(run_ir(made, (count,), (), steps + more), (outs, 1, ()))
            for less in range(steps):
                self.assertIsNone(run_ir(made, (count,), (), less))
        self.assertEqual(run_ir(((), 0, ((("stop", 0),),)), (), (), 1), ((), 0, ()))
        self.assertIsNone(run_ir(((), 0, ((("stop", 0),),)), (), (), 0))

    def test_no_stop(self):
        self.assertIsNone(run_ir(((), 0, ((("jump", 0),),)), (), (), 1000))
        self.assertIsNone(run_ir(((), 0, ((("const", 0, 1), ("branch", 0, 0, 1)), (("stop", 0),))), (), (), 1001))

    def test_many_registers(self):
        made = ((), 100001, ((("op", "+", 0, 100000, 99999), ("stop", 0)),))
        inputs = tuple(range(100001))
        self.assertEqual(run_ir(made, inputs, (), 2), ((), 199999, ()))

    def test_kinds_of_values(self):
        made = program([("out", 0), ("op", "==", 0, 0, 0)])
        found = run_ir(made, (1, 2), ((1, 2, 3, 4, 5), (6,)), 9)
        self.assertEqual(found, ((1,), 1, ((1, 2, 3, 4, 5), (6,))))
        self.assertIs(type(found), tuple)
        self.assertIs(type(found[0]), tuple)
        self.assertIs(type(found[1]), int)
        self.assertEqual([type(row) for row in found[2]], [tuple, tuple])

    def test_runs_are_apart(self):
        made = program([("store", 0, 0, 1), ("load", 0, 0, 0)])
        contents = ((1, 2, 3, 4, 5), (6,))
        first = run_ir(made, (0, 9), contents, 9)
        self.assertEqual(contents, ((1, 2, 3, 4, 5), (6,)))
        self.assertEqual(run_ir(made, (0, 9), contents, 9), first)


if __name__ == "__main__":
    unittest.main()
