"""Public registers and keeping secrets (point 4.6)."""

import random
import unittest

from sameclock.ir import SIGNS, is_ir
from sameclock.ir_labels import keeps_secrets, public_registers
from reference import public_by_trying

PS = ("public", "secret")
ARRAYS = (("pub", 4, "public"), ("sec", 4, "secret"))


def program(*rows, end=("stop", 0), params=2):
    """Register 0 is a public parameter, 1 a secret one; the second block can be named, too."""
    made = (ARRAYS, params, (rows + (end,), (("stop", 0),)))
    assert is_ir(made)
    return made


class TestPublic(unittest.TestCase):
    def public(self, made, wanted, params=PS):
        self.assertEqual(public_registers(made, params), wanted)
        self.assertEqual(public_by_trying(made, params), wanted)

    def test_params(self):
        self.public(program(), (0,))
        self.public(program(), (0, 1), ("public", "public"))
        self.public(program(), (), ("secret", "secret"))
        self.public(program(params=5), (0, 2, 4), ("public", "secret", "public", "secret", "public"))

    def test_named(self):
        self.public(program(("out", 7), end=("branch", 9, 0, 1)), (0, 7, 9))
        self.public(program(("store", 0, 5, 6), end=("stop", 8)), (0, 5, 6, 8))

    def test_rows(self):
        self.public(program(("const", 2, 5)), (0, 2))
        self.public(program(("const", 1, 5)), (0,))
        self.public(program(("const", 0, 5)), (0,))
        self.public(program(("copy", 2, 0), ("copy", 3, 1)), (0, 2))
        self.public(program(("copy", 0, 1)), ())
        for sign in SIGNS:
            self.public(program(("op", sign, 2, 0, 0), ("op", sign, 3, 0, 1), ("op", sign, 4, 1, 0), ("op", sign, 5, 1, 1)), (0, 2))
        self.public(program(("select", 2, 0, 0, 0), ("select", 3, 1, 0, 0), ("select", 4, 0, 1, 0), ("select", 5, 0, 0, 1)), (0, 2))
        self.public(program(("load", 2, 0, 0), ("load", 3, 0, 1), ("load", 4, 1, 0), ("load", 5, 1, 1)), (0, 2))

    def test_every_row_that_writes(self):
        self.public(program(("const", 2, 5), ("copy", 2, 1), ("const", 2, 6)), (0,))
        self.public((ARRAYS, 2, ((("const", 2, 5), ("stop", 2)), (("copy", 2, 1), ("stop", 0)))), (0,))

    def test_rings(self):
        self.public(program(("copy", 2, 3), ("copy", 3, 2)), (0, 2, 3))
        self.public(program(("op", "+", 2, 2, 0)), (0, 2))
        self.public(program(("op", "+", 2, 2, 3), ("copy", 3, 2), ("copy", 4, 3), ("copy", 3, 1)), (0,))

    def test_far(self):
        rows = tuple(("copy", k + 2, k + 1) for k in range(1, 200))
        self.public(program(*rows), (0,) + tuple(range(2, 202)))
        rows = tuple(("copy", k + 2, k + 1) for k in range(200))
        self.public(program(*rows), (0,))
        self.public(program(*reversed(rows)), (0,))

    def test_random(self):
        chance = random.Random(3)
        for _ in range(400):
            rows = []
            for _ in range(chance.randrange(1, 15)):
                d, a, b, c = (chance.randrange(10) for _ in range(4))
                rows.append(chance.choice([("const", d, a), ("copy", d, a), ("op", "+", d, a, b), ("select", d, a, b, c),
                                           ("load", d, a & 1, b), ("store", a & 1, b, c), ("out", a)]))
            made = (ARRAYS, 3, (tuple(rows) + (("branch", 1, 0, 0),),))
            params = tuple(chance.choice(PS) for _ in range(3))
            self.public(made, public_by_trying(made, params), params)


class TestKeeps(unittest.TestCase):
    def keeps(self, wanted, *rows, end=("stop", 0), params=PS):
        self.assertIs(keeps_secrets(program(*rows, end=end), params), wanted)

    def test_outs(self):
        self.keeps(True, ("out", 0))
        self.keeps(False, ("out", 1))
        self.keeps(True, ("out", 1), params=("public", "public"))

    def test_ends(self):
        self.keeps(True, end=("branch", 0, 0, 1))
        self.keeps(False, end=("branch", 1, 0, 1))
        self.keeps(False, end=("branch", 1, 1, 1))
        self.keeps(True, end=("jump", 1))
        self.keeps(True, end=("stop", 1))

    def test_loads(self):
        self.keeps(True, ("load", 2, 0, 0), ("load", 3, 1, 0))
        self.keeps(False, ("load", 2, 0, 1))
        self.keeps(False, ("load", 2, 1, 1))

    def test_stores(self):
        self.keeps(True, ("store", 0, 0, 0), ("store", 1, 0, 0), ("store", 1, 0, 1))
        self.keeps(False, ("store", 0, 1, 0))
        self.keeps(False, ("store", 0, 0, 1))
        self.keeps(False, ("store", 1, 1, 0))
        self.keeps(False, ("store", 1, 1, 1))

    def test_divisions(self):
        for sign in SIGNS:
            self.keeps(True, ("op", sign, 2, 0, 0))
            for a, b in ((0, 1), (1, 0), (1, 1)):
                self.keeps(sign not in ("div", "mod"), ("op", sign, 2, a, b))

    def test_others(self):
        self.keeps(True, ("const", 1, 2), ("copy", 2, 1), ("select", 3, 1, 0, 1), ("select", 3, 0, 1, 1))

    def test_through_registers(self):
        self.keeps(False, ("copy", 2, 1), ("out", 2))
        self.keeps(False, ("load", 2, 1, 0), ("out", 2))
        self.keeps(True, ("load", 2, 0, 0), ("out", 2))
        self.keeps(False, ("out", 2), ("copy", 2, 1))
        self.keeps(False, ("select", 2, 1, 0, 0), ("out", 2))

    def test_rows_that_are_never_come_to_count(self):
        made = (ARRAYS, 2, ((("stop", 0),), (("out", 1), ("stop", 0))))
        self.assertIs(keeps_secrets(made, PS), False)


if __name__ == "__main__":
    unittest.main()
