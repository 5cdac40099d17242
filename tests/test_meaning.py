"""The meaning of typed programs (part 3)."""

import random
import unittest

from sameclock.check import check, typed
from sameclock.ir import SIGNS
from sameclock.meaning import called, meaning
from good import good_program, other_secrets, random_inputs
from reference import operate, tree_meaning

TOP = 2 ** 32 - 1
EDGES = [0, 1, 2, 31, 32, 33, 2 ** 31 - 1, 2 ** 31, TOP - 1, TOP]
HEAD = "public array a[3]; secret array b[2];"
START = ((10, 11, 12), (20, 21))


def run(text, inputs=(), contents=START):
    return meaning(typed(HEAD + text), inputs, contents)


class TestExpressions(unittest.TestCase):
    def value(self, expr, wanted, *inputs):
        params = ", ".join("secret " + name for name in "pqr"[:len(inputs)])
        self.assertEqual(run(f"main({params}) {{ return {expr}; }}", inputs), ((), wanted, START), expr)

    def test_numbers_and_variables(self):
        self.value("4294967295", TOP)
        self.value("0", 0)
        self.value("q", 6, 5, 6, 7)

    def test_operators(self):
        for sign in SIGNS:
            program = typed(f"main(secret p, secret q) {{ return p {sign} q; }}")
            for a in EDGES:
                for b in EDGES:
                    self.assertEqual(meaning(program, (a, b), ()), ((), operate(sign, a, b), ()), (sign, a, b))

    def test_operators_by_hand(self):
        self.value("p + 1", 0, TOP)
        self.value("p - 1", TOP, 0)
        self.value("p * p", 1, TOP)
        self.value("p << q", 1, 1, 32)
        self.value("p << q", 2 ** 31, 1, 31)
        self.value("p << q", 2, 1, 33)
        self.value("p >> q", TOP, TOP, 64)
        self.value("p >> q", 1, TOP, 31)
        self.value("p div q", 0, 5, 0)
        self.value("p mod q", 5, 5, 0)
        self.value("p div q", 2, 5, 2)
        self.value("p mod q", 1, 5, 2)
        self.value("p < q", 1, 5, TOP)
        self.value("p <= q", 1, 5, 5)
        self.value("p == q", 0, 5, 6)
        self.value("p - q - r", TOP, 1, 1, 1)

    def test_not(self):
        self.value("!p", 1, 0)
        self.value("!p", 0, 1)
        self.value("!p", 0, TOP)
        self.value("!!p", 1, 7)

    def test_choose(self):
        self.value("p ? q : r", 5, 1, 5, 6)
        self.value("p ? q : r", 5, TOP, 5, 6)
        self.value("p ? q : r", 6, 0, 5, 6)

    def test_reads(self):
        for at, word in ((0, 10), (1, 11), (2, 12), (3, 0), (4, 0), (7, 0), (TOP, 0)):
            self.value("a[p]", word, at)
        for at, word in ((0, 20), (1, 21), (2, 0), (TOP, 0)):
            self.value("b[p]", word, at)

    def test_both_values_of_a_choose(self):
        text = "fn f(public x) { out x; a[0] = a[0] + x; return x; } main(public p) { return f(1) + p ? f(2) : f(4); }"
        self.assertEqual(run(text, (0,)), ((1, 2, 4), 2, ((17, 11, 12), (20, 21))))
        self.assertEqual(run(text, (TOP,)), ((1, 2, 4), 4, ((17, 11, 12), (20, 21))))

    def test_left_to_right(self):
        head = "fn f(public x) { out x; return x; } fn g(public x, public y, public z) { out 0; return x + y + z; }"
        for expr, outs, result in (
            ("f(1) - f(2)", (1, 2), TOP), ("f(1) * f(2) + f(3)", (1, 2, 3), 5), ("f(1) + f(2) * f(3)", (1, 2, 3), 7),
            ("g(f(1), f(2), f(3))", (1, 2, 3, 0), 6), ("f(f(f(1) + 1) + 1)", (1, 2, 3), 3), ("!f(5) == f(6)", (5, 6), 0),
            ("f(0) ? f(2) : f(3)", (0, 2, 3), 3), ("f(1) & f(0) & f(2)", (1, 0, 2), 0), ("f(0) < f(1)", (0, 1), 1),
            ("a[f(1)] + f(2)", (1, 2), 13), ("f(8) div f(3) mod f(2)", (8, 3, 2), 0),
        ):
            self.assertEqual(run(head + f"main() {{ return {expr}; }}"), (outs, result, START), expr)

    def test_calls_between_reads(self):
        text = "fn f() { a[0] = a[0] * 2; return 1; } main() { return a[0] + f() + a[0] + a[f() - 1]; }"
        self.assertEqual(run(text), ((), 10 + 1 + 20 + 40, ((40, 11, 12), (20, 21))))


class TestStatements(unittest.TestCase):
    def does(self, body, outs, inputs=(), params="", ends=START):
        self.assertEqual(run(f"main({params}) {{ {body} return 7; }}", inputs), (outs, 7, ends), body)

    def test_set(self):
        self.does("public x = 1; out x; x = x + 1; out x; public y = x; x = 9; out y; out x;", (1, 2, 2, 9))

    def test_store(self):
        self.does("a[1] = 5; out a[1]; b[0] = 6;", (5,), ends=((10, 5, 12), (6, 21)))
        self.does("a[3] = 5; a[4] = 5; a[4294967295] = 6; b[2] = 1;", ())
        self.does("a[2] = 4294967295 + 2;", (), ends=((10, 11, 1), (20, 21)))
        text = ("fn f(public x) { out x; a[x] = 90; return x; } main() { a[f(1)] = a[1] + f(2); return 0; }")
        self.assertEqual(run(text), ((1, 2), 0, ((10, 92, 90), (20, 21))))

    def test_if(self):
        for value, outs in ((0, (2,)), (1, (1,)), (TOP, (1,))):
            self.does("if p { out 1; } else { out 2; }", outs, (value,), "public p")
            self.does("if p { out 1; } if !p { out 2; }", outs, (value,), "public p")
        self.does("if 1 { } else { out 1; } if 0 { out 1; }", ())
        self.does("public x = 1; if x { x = 0; out 1; } else { out 2; }", (1,))

    def test_for(self):
        self.does("for i to 3 max 10 { out i; }", (0, 1, 2))
        self.does("for i to 10 max 3 { out i; }", (0, 1, 2))
        self.does("for i to 3 max 3 { out i; }", (0, 1, 2))
        self.does("for i to 0 max 3 { out i; }", ())
        self.does("for i to 3 max 0 { out i; }", ())
        self.does("for i to 4294967295 max 2 { out i; }", (0, 1))
        self.does("for i to 2 max 9 { for j to i + 1 max 9 { out i * 10 + j; } }", (0, 10, 11))
        self.assertEqual(len(run("main() { for i to 5000 max 1000 { out i; } return 0; }")[0]), 1000)

    def test_bound_is_evaluated_once(self):
        self.does("public n = 3; for i to n max 10 { n = n + 1; out n; }", (4, 5, 6))
        self.does("public n = 3; for i to n max 10 { n = 0; out i; }", (0, 1, 2))
        text = "fn f() { out 5; return 2; } main() { for i to f() max 9 { out i; } return 0; }"
        self.assertEqual(run(text)[0], (5, 0, 1))

    def test_out(self):
        self.does("out 1; out 2; out 1; out 4294967295 + 1;", (1, 2, 1, 0))

    def test_secret_if_does_one_body(self):
        text = "main(secret s) { secret x = 1; if s { x = 2; b[0] = 5; } else { x = 3; b[1] = 6; } return x; }"
        self.assertEqual(run(text, (1,)), ((), 2, ((10, 11, 12), (5, 21))))
        self.assertEqual(run(text, (0,)), ((), 3, ((10, 11, 12), (20, 6))))


class TestCalls(unittest.TestCase):
    def test_own_variables(self):
        text = ("fn f(public x) { public y = x; x = x + 5; y = y + x; return y; }"
                "main() { public x = 1; public y = 2; out f(x); out f(y); out x; out y; return f(f(0)); }")
        self.assertEqual(run(text), ((7, 9, 1, 2), 15, START))

    def test_shared_arrays(self):
        text = ("fn f() { a[0] = a[0] + 1; return a[0]; } fn g() { out f(); a[0] = a[0] * 2; return f(); }"
                "main() { out g(); out a[0]; return f(); }")
        self.assertEqual(run(text), ((11, 23, 23), 24, ((24, 11, 12), (20, 21))))

    def test_variables_begin_with_0(self):
        program = ((), (("f", (), ("public",), (("out", ("var", 0)), ("set", 0, ("num", 5))), ("var", 0), "public"),),
                   ("main", ("public",), ("public", "public"), (("out", ("var", 1)), ("set", 1, ("call", 0, ()))),
                    ("op", "+", ("var", 1), ("call", 0, ())), "public"))
        self.assertEqual(meaning(program, (3,), ()), ((0, 0, 0), 10, ()))

    def test_called(self):
        program = typed(HEAD + "fn f(public x, secret y) { out x; b[0] = y; return x - y; } fn g() { return f(1, 2) + 1; }"
                        "main() { out 100; return 0; }")
        self.assertEqual(called(program, 0, (9, 4), START), ((9,), 5, ((10, 11, 12), (4, 21))))
        self.assertEqual(called(program, 1, (), START), ((1,), 0, ((10, 11, 12), (2, 21))))
        self.assertEqual(meaning(program, (), START), ((100,), 0, START))

    def test_deep_calls(self):
        rows = ["fn f0(public x) { out x; return x; }"]
        for k in range(1, 100):
            deep = "1 + (" * 8 + f"f{k - 1}(x)" + ")" * 8
            rows.append(f"fn f{k}(public x) {{ public y = 0; if x {{ for i to 1 max 2 {{ y = {deep}; }} }} return y; }}")
        text = "".join(rows) + "main() { return f99(3); }"
        self.assertEqual(run(text), ((3,), 3 + 99 * 8, START))

    def test_deep_expressions(self):
        depth = 40
        text = "fn f(secret x) { return x + 1; } main(secret s) { secret t = 0; " + "if s { " * depth
        text += "t = " + "f(" * depth + "s" + ")" * depth + ";" + "}" * depth + " return t; }"
        self.assertEqual(run(text, (5,)), ((), 45, START))
        self.assertEqual(run(text, (0,)), ((), 0, START))

    def test_many_calls(self):
        text = "fn f(public x) { return x + 1; } main() { public n = 0; for i to 1000 max 1000 { n = f(f(n)); } return n; }"
        self.assertEqual(run(text), ((), 2000, START))


class TestValues(unittest.TestCase):
    def test_arguments_stay(self):
        program = typed(HEAD + "main(secret p) { p = 3; a[0] = 1; b[1] = p; return p; }")
        contents = ((10, 11, 12), (20, 21))
        inputs = (5,)
        again = typed(HEAD + "main(secret p) { p = 3; a[0] = 1; b[1] = p; return p; }")
        first = meaning(program, inputs, contents)
        self.assertEqual(meaning(program, inputs, contents), first)
        self.assertEqual((inputs, contents, program), ((5,), ((10, 11, 12), (20, 21)), again))

    def test_kinds_of_values(self):
        found = run("main(secret s) { out 1 == 1; b[0] = !s; return s < 3; }", (0,))
        self.assertEqual(found, ((1,), 1, ((10, 11, 12), (1, 21))))
        self.assertEqual([type(part) for part in found], [tuple, int, tuple])
        self.assertEqual([type(row) for row in found[2]], [tuple, tuple])
        self.assertEqual([type(word) for word in found[0] + found[2][1]], [int, int, int])

    def test_random_programs(self):
        for number in range(200):
            tree = good_program(number)
            program = check(tree)
            for more in range(3):
                inputs, contents = random_inputs(tree, number * 7 + more)
                self.assertEqual(meaning(program, inputs, contents), tree_meaning(tree, inputs, contents), number)

    def test_random_procedures(self):
        chance = random.Random(9)
        for number in range(100):
            tree = good_program(number)
            program = check(tree)
            _, contents = random_inputs(tree, number)
            for p, procedure in enumerate(tree[1]):
                values = tuple(chance.randrange(20) for _ in procedure[1])
                alone = (tree[0], tree[1], procedure)
                self.assertEqual(called(program, p, values, contents), tree_meaning(alone, values, contents))


class TestSecrets(unittest.TestCase):
    def test_public_ends(self):
        for number in range(200):
            tree = good_program(number)
            program = check(tree)
            inputs, contents = random_inputs(tree, number)
            wanted = self.seen(tree, meaning(program, inputs, contents))
            for more in range(4):
                others = other_secrets(tree, inputs, contents, number * 5 + more)
                self.assertEqual(self.seen(tree, meaning(program, others[0], others[1])), wanted, number)

    def seen(self, tree, found):
        return (found[0], [row for (label, _, _), row in zip(tree[0], found[2]) if label == "public"])

    def test_by_hand(self):
        program = typed(HEAD + "fn f(secret x, public y) { if x { b[y] = x; } else { b[x] = y; } return b[y]; }"
                        "main(secret s, public p) { for i to p max 3 { out i + a[i]; a[i] = i; if f(s, i) { s = s + 1; } }"
                        " return s; }")
        outs = set()
        for s in range(6):
            for cell in range(4):
                found = meaning(program, (s, 2), ((10, 11, 12), (cell, 1)))
                outs.add((found[0], found[2][0]))
        self.assertEqual(outs, {((10, 12), (0, 1, 12))})


if __name__ == "__main__":
    unittest.main()
