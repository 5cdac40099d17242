"""Lowering (point 4.5) and what it makes keeps its secrets (4.6)."""

import itertools
import unittest

from sameclock.check import check, typed
from sameclock.errors import ProgramError
from sameclock.ir import is_ir, run_ir
from sameclock.ir_labels import keeps_secrets
from sameclock.lower import lower
from sameclock.meaning import meaning
from changed import changed_program
from good import good_program, other_secrets, random_inputs
from reference import traced, tree_meaning

TOP = 2 ** 32 - 1
EDGES = [0, 1, 2, 3, 7, 10, 31, 32, 65535, 65536, 2 ** 31 - 1, 2 ** 31, 2 ** 31 + 1, TOP - 1, TOP]
HEAD = "public array pub[3]; secret array sec[5]; secret array one[1]; secret array four[4];"
START = ((10, 11, 12), (20, 21, 22, 23, 24), (30,), (40, 41, 42, 43))


class Case(unittest.TestCase):
    def lowered(self, text):
        program = typed(text)
        made = lower(program)
        self.assertIs(is_ir(made), True)
        self.assertIs(keeps_secrets(made, program[2][1]), True, text)
        self.assertEqual(made[0], tuple((name, length, label) for label, name, length in program[0]))
        self.assertEqual(made[1], len(program[2][1]))
        return (program, made)

    def runs(self, text, all_inputs, contents=START):
        """Runs a text for inputs; gives the trails of blocks and cells."""
        program, made = self.lowered(text)
        trails = []
        for inputs in all_inputs:
            wanted = meaning(program, inputs, contents)
            found, trail, steps = traced(made, inputs, contents)
            self.assertEqual(found, wanted, (text, inputs))
            self.assertEqual(run_ir(made, inputs, contents, steps), wanted)
            self.assertIsNone(run_ir(made, inputs, contents, steps - 1))
            trails.append(trail)
        return trails

    def same(self, text, all_inputs, contents=START):
        """Runs a text, all of whose inputs are secret; all runs touch the same."""
        trails = self.runs(text, all_inputs, contents)
        for trail in trails:
            self.assertEqual(trail, trails[0], text)
        return trails[0]

    def touched(self, trail, array):
        return [(word, at) for word, *rest in trail if word in ("load", "store") for other, at in [rest] if other == array]


class TestForm(Case):
    def test_least(self):
        _, made = self.lowered("main() { return 0; }")
        self.assertEqual(run_ir(made, (), (), 100), ((), 0, ()))

    def test_arrays_and_params(self):
        _, made = self.lowered(HEAD + "main(secret a, public b, public c) { return 0; }")
        self.assertEqual(made[0], (("pub", 3, "public"), ("sec", 5, "secret"), ("one", 1, "secret"), ("four", 4, "secret")))
        self.assertEqual(made[1], 3)

    def test_arguments_stay(self):
        text = HEAD + "fn f(secret x) { sec[x] = 1; return x; } main(secret s) { if s { s = f(s); } return s; }"
        program = typed(text)
        first = lower(program)
        self.assertEqual(lower(program), first)
        self.assertEqual(program, typed(text))


class TestPublic(Case):
    def test_expressions(self):
        for sign in ("+", "-", "*", "&", "|", "^", "<<", ">>", "==", "<", "<=", "div", "mod"):
            self.runs(f"main(public a, public b) {{ out a {sign} b; return b {sign} a; }}",
                      itertools.product(EDGES, EDGES), ())
        self.runs("main(public a, public b) { out !a; out a ? b : 7; out a ? !b : a - 1; return !!b; }",
                  itertools.product(EDGES, EDGES), ())

    def test_divisions_stay_rows(self):
        trails = self.runs("main(public a, public b) { out a div b; out a mod b; return 0; }", [(7, 2), (7, 0)], ())
        self.assertEqual([step for step in trails[0] if step[0] in ("div", "mod")], [("div", 7, 2), ("mod", 7, 2)])

    def test_reads_of_one_cell(self):
        for at in EDGES:
            for name, number in (("pub", 0), ("sec", 1), ("one", 2), ("four", 3)):
                trail = self.runs(HEAD + f"main(public p) {{ return {name}[p]; }}", [(at,)])[0]
                self.assertEqual(len(self.touched(trail, number)), 1)
                self.assertEqual([step for step in trail if step[0] == "store"], [])

    def test_stores_of_one_cell(self):
        for at in EDGES + [4, 5, 6, 8]:
            for name, number in (("pub", 0), ("sec", 1), ("one", 2), ("four", 3)):
                trail = self.runs(HEAD + f"main(public p) {{ {name}[p] = p + 1; return 0; }}", [(at,)])[0]
                cells = self.touched(trail, number)
                self.assertLessEqual(len(set(cell for _, cell in cells)), 1)
                self.assertLessEqual(len([word for word, _ in cells if word == "store"]), 1)
                self.assertEqual([step for step in trail if step[0] in ("load", "store") and step[1] != number], [])

    def test_ifs(self):
        self.runs(HEAD + "main(public p) { public x = 3; if p { x = 4; pub[1] = 2; out 1; } else { out 2; } out x;"
                  "if p == 1 { if x { out 5; } } if p { } else { x = p; } return x; }", [(0,), (1,), (2,)])
        self.runs("main(public p) { public x = p; if x { x = 0; out 1; } else { x = 1; out 2; } return x; }", [(0,), (3,)], ())

    def test_ifs_are_branches(self):
        trails = self.runs(HEAD + "main(public p) { if p { sec[1] = 1; } else { sec[2] = 1; } return 0; }", [(0,), (1,)])
        self.assertEqual(set(cell for _, cell in self.touched(trails[0], 1)), {2})
        self.assertEqual(set(cell for _, cell in self.touched(trails[1], 1)), {1})

    def test_loops(self):
        self.runs("main(public p) { public n = p; for i to n max 5 { n = n + 2; out i; for j to i max 2 { out j; } } return n; }",
                  [(k,) for k in (0, 1, 4, 5, 6, TOP)], ())
        self.runs("main(public p) { for i to p max 0 { out i; } for i to 3 max 1000 { out i; } return 0; }", [(9,)], ())
        self.runs("main(public p) { public n = 0; for i to p max 1000 { for j to 2 max 2 { n = n + j; } } return n; }", [(TOP,)], ())

    def test_order(self):
        self.runs(HEAD + "fn f(public x) { out x; pub[0] = pub[0] * 3 + x; return x; }"
                  "main(public p) { pub[f(1)] = f(2) + pub[0] - f(3) * pub[0]; return f(4) ? f(5) + pub[0] : pub[0] - f(p); }",
                  [(0,), (7,)])


class TestSecretIndexes(Case):
    def test_reads(self):
        for name, number, length in (("pub", 0, 3), ("sec", 1, 5), ("one", 2, 1), ("four", 3, 4)):
            trail = self.same(HEAD + f"main(secret s) {{ return {name}[s]; }}", [(at,) for at in EDGES + [4, 5, 6, 8]])
            cells = self.touched(trail, number)
            self.assertEqual(sorted(set(cells)), [("load", at) for at in range(length)])
            self.assertEqual([step for step in trail if step[0] == "store"], [])

    def test_stores(self):
        for name, number, length in (("sec", 1, 5), ("one", 2, 1), ("four", 3, 4)):
            trail = self.same(HEAD + f"main(secret s) {{ {name}[s] = s + 1; return 0; }}", [(at,) for at in EDGES + [4, 5, 6, 8]])
            cells = self.touched(trail, number)
            self.assertEqual(sorted(set(cells)), [(word, at) for word in ("load", "store") for at in range(length)])

    def test_greatest_length(self):
        for length in (63, 64):
            text = f"secret array k[{length}]; main(secret s) {{ k[s] = 5; return k[s + 1]; }}"
            self.same(text, [(at,) for at in (0, 1, 61, 62, 63, 64, 65, TOP)], (tuple(range(100, 100 + length)),))

    def test_index_and_value_by_calls(self):
        self.same(HEAD + "fn f(secret x) { sec[x] = x + sec[x]; return x; } main(secret s) "
                  "{ sec[f(s) + 1] = f(s + 1) + sec[f(s)]; return sec[sec[s] - 20]; }", [(at,) for at in range(8)])


class TestSecretDivisions(Case):
    def test_all_edges(self):
        for sign in ("div", "mod"):
            for params in ("secret a, secret b", "secret a, public b", "public a, secret b"):
                trails = self.runs(f"main({params}) {{ return a {sign} b; }}", itertools.product(EDGES, EDGES), ())
                for trail in trails:
                    self.assertEqual(trail, trails[0])
                self.assertEqual([step for step in trails[0] if step[0] in ("div", "mod")], [])

    def test_as_many_steps(self):
        program, made = self.lowered("main(secret a, secret b) { return a div b + a mod b; }")
        steps = {traced(made, inputs, ())[2] for inputs in itertools.product(EDGES, EDGES)}
        self.assertEqual(len(steps), 1)

    def test_mixed(self):
        self.same("main(secret a, secret b) { secret q = a div 10; secret r = 100 mod b; return q mod (r + 1) - b div b * 3; }",
                  itertools.product([0, 1, 9, 10, 99, TOP], [0, 1, 3, 101, TOP]), ())

    def test_under_secrets(self):
        self.same("main(secret a, secret b) { if a < b { a = b div a; } else { b = a mod b; } return a * 3 + b; }",
                  itertools.product([0, 1, 9, TOP], [0, 1, 3, TOP]), ())


class TestSecretIfs(Case):
    def test_variables(self):
        self.same("main(secret s, secret t) { secret x = 1; if s { x = t; } if t { x = x + 1; s = 5; } else { x = x * 3; t = 6; }"
                  " return x * 100 + s * 10 + t; }", itertools.product([0, 1, 2, TOP], repeat=2), ())

    def test_variables_that_are_declared_inside(self):
        text = """main(secret s, secret t) {
            for i to 4 max 5 {
              if s & 1 { secret u = t + i; u = u * 2; if u < 9 { secret v = u; v = v + 1; t = t + v; } t = t ^ u; }
              else { secret v = s; for j to 2 max 2 { secret w = v + j; v = w * 3; } t = t ^ v; secret u = v; sec[u] = t; }
              s = s >> 1;
            }
            return t; }"""
        self.same(HEAD + text, itertools.product((0, 1, 5, 10, TOP), (0, 3, TOP)))
        text = """fn f(secret x) { secret y = x * 2; if y < 7 { secret z = y; y = z + sec[z]; } sec[y] = y; return y; }
            main(secret s) { secret t = 5; if s < 3 { secret u = f(s) + f(2); t = u; } else { if s < 5 { secret u = f(1); sec[u] = t; } } return t; }"""
        self.same(HEAD + text, [(n,) for n in (0, 1, 2, 3, 4, 5, TOP)])

    def test_condition_is_changed(self):
        self.same("main(secret s) { secret x = 0; if s { s = 0; x = x + 1; } else { s = 1; x = x + 2; } return x * 10 + s; }",
                  [(0,), (1,), (TOP,)], ())

    def test_stores(self):
        trail = self.same(HEAD + "main(secret s) { if s { sec[1] = 5; sec[9] = 6; } else { sec[s] = 7; four[s + 1] = 8; }"
                          " return sec[1]; }", [(0,), (1,), (2,)])
        self.assertEqual([step for step in trail if step[0] in ("load", "store") and step[1] in (0, 2)], [])

    def test_nested(self):
        self.same(HEAD + "main(secret s, secret t) { secret x = 0; if s { if t { x = 1; sec[t] = 1; } else { x = 2; sec[0] = 2; } }"
                  " else { if t { x = 3; one[0] = 3; } else { x = 4; four[s] = 4; } x = x + 10; } return x; }",
                  itertools.product([0, 1, 2], repeat=2))

    def test_public_ifs_and_loops_inside(self):
        self.runs(HEAD + "main(secret s, public p) { if s { if p { s = s + 1; sec[p] = s; } else { s = 3; } for i to p max 4 "
                  "{ s = s + i; sec[i] = s; four[s] = i; } } else { for i to 2 max 2 { if i { sec[s] = 9; } } } return s; }",
                  itertools.product([0, 1, 3], [0, 1, 2, 5]))

    def test_calls(self):
        text = HEAD + ("fn f(secret x, public y) { secret z = x; if x { sec[y] = x; z = z + 1; } else { sec[x] = y; x = 4; }"
                       " for i to y max 3 { z = z + i; four[z] = x; } return z + sec[y]; }"
                       "fn g(secret x) { x = x + 1; return f(x, 1) + f(f(x, 2), 0); }"
                       "main(secret s, secret t) { secret x = 7; if s { x = g(t); } else { if t { sec[0] = f(s, 2); } x = x + 1; }"
                       " if g(s) == t { x = x + g(x); } return x; }")
        self.same(text, itertools.product([0, 1, 2, 60], [0, 1, 24]))

    def test_condition_with_calls(self):
        self.same(HEAD + "fn f(secret x) { sec[0] = sec[0] + x; return x; } main(secret s) { secret n = 0; if f(s) { if f(s - 1) "
                  "{ n = n + f(1); } else { n = n + f(2); } } else { if f(5) { n = 9; } } return n; }", [(0,), (1,), (2,)])

    def test_empty(self):
        self.same(HEAD + "fn f(secret x) { sec[0] = sec[0] + x; return x; } main(secret s) { if f(s) { } if f(s) { } else { } "
                  "return s; }", [(0,), (1,)])

    def test_quiet_call_keeps_what_it_may_not_change(self):
        text = HEAD + ("fn f() { four[1] = 9; sec[2] = four[0]; return four[1]; } fn g() { return f() + f(); }"
                       "main(secret s) { secret x = 1; if s { x = g(); } return x; }")
        trails = self.same(text, [(0,), (1,)])
        self.assertEqual(set(cell for _, cell in self.touched(trails, 3)), {0, 1})

    def test_arrays_of_other_contents(self):
        text = HEAD + "main(secret s) { if sec[s] < four[s] { sec[four[s]] = s; } return sec[sec[s]] div four[1]; }"
        program, made = self.lowered(text)
        trails = []
        for number in range(20):
            contents = (START[0], tuple((number * k) % 7 for k in range(5)), (number,), tuple((k + number) % 6 for k in range(4)))
            found, trail, _ = traced(made, (number % 6,), contents)
            self.assertEqual(found, meaning(program, (number % 6,), contents))
            trails.append(trail)
            self.assertEqual(trail, trails[0])


class TestCalls(Case):
    def test_own_variables_in_each_call(self):
        self.runs("fn f(public x) { public y = x; if x { public z = 3; y = y + z; } x = x + 5; return y * 10 + x; }"
                  "main(public p) { public x = 1; for i to 3 max 3 { out f(i) + f(x); x = f(p); out x; } return x; }", [(0,), (2,)], ())

    def test_variables_begin_with_0_in_each_call(self):
        program = ((), (("f", ("public",), ("public", "public"),
                         (("out", ("var", 1)), ("set", 1, ("op", "+", ("var", 0), ("num", 5)))), ("var", 1), "public"),),
                   ("main", ("public",), ("public", "public"),
                    (("for", 1, ("num", 3), 3, (("out", ("call", 0, (("var", 1),))),)),), ("var", 1), "public"))
        made = lower(program)
        self.assertEqual(run_ir(made, (1,), (), 10000)[0], meaning(program, (1,), ())[0])

    def test_params_are_copies(self):
        self.runs("fn f(public x, public y) { x = x + 1; y = x; return y; } main(public p) { public r = f(p, p); return r * 100 + p; }",
                  [(3,)], ())

    def test_result_is_a_variable(self):
        self.runs("fn f(public x) { return x; } main(public p) { public y = f(1) + f(2) * f(p); return y; }", [(3,)], ())

    def test_deep(self):
        rows = ["fn f0(secret x) { return x + 1; }"]
        for k in range(1, 100):
            rows.append(f"fn f{k}(secret x) {{ secret y = 1; if x {{ y = 2 * (1 + f{k - 1}(x)); }} return y; }}")
        self.same("".join(rows) + "main(secret s) { return f99(s); }", [(0,), (1,), (5,)], ())

    def test_those_not_called_are_not_there(self):
        rows = ["fn f0(public x) { out x; return x; }"]
        for k in range(1, 60):
            rows.append(f"fn f{k}(public x) {{ return f{k - 1}(x) + f{k - 1}(x); }}")
        self.runs("".join(rows) + "main(public p) { return f2(p); }", [(1,)], ())

    def test_nested_deep(self):
        depth = 40
        text = "fn f(secret x) { return x + 1; } main(secret s) { secret t = 0; " + "if s { " * depth
        text += "t = " + "f(" * depth + "s" + ")" * depth + ";" + "}" * depth + " return t; }"
        self.same(text, [(0,), (1,), (7,)], ())
        text = "main(public p) { public n = 0; " + "if p { " * depth + "n = " + "1 - (" * depth + "p" + ")" * depth + ";"
        self.runs(text + "}" * depth + " return n; }", [(0,), (5,)], ())


class TestRandom(Case):
    def compare(self, number, tree, program):
        """A lowered program against the meaning of its tree, and its trails for two choices of secrets."""
        made = lower(program)
        self.assertIs(is_ir(made), True)
        self.assertIs(keeps_secrets(made, program[2][1]), True, number)
        for more in range(2):
            inputs, contents = random_inputs(tree, number * 11 + more)
            found, trail, _ = traced(made, inputs, contents)
            self.assertEqual(found, tree_meaning(tree, inputs, contents), number)
            others = other_secrets(tree, inputs, contents, number * 11 + more)
            again, other_trail, _ = traced(made, others[0], others[1])
            self.assertEqual(again, tree_meaning(tree, others[0], others[1]), number)
            self.assertEqual(other_trail, trail, number)

    def test_good_programs(self):
        for number in range(250):
            tree = good_program(number)
            self.compare(number, tree, check(tree))

    def test_changed_programs(self):
        taken = 0
        for number in range(600):
            tree = changed_program(number)
            try:
                program = check(tree)
            except ProgramError:
                continue
            taken += 1
            self.compare(number, tree, program)
        self.assertGreater(taken, 100)


if __name__ == "__main__":
    unittest.main()
