"""Running texts (points 10.1 to 10.3)."""

import itertools
import unittest

from sameclock import run
from sameclock.allocate import allocate
from sameclock.check import typed
from sameclock.code_form import is_code
from sameclock.emit import emit
from sameclock.errors import BadCharacter, BadNumber, DoubleName, FixedName, Leak, Unexpected, UnknownName, WrongCount
from sameclock.ir import is_ir
from sameclock.judge import taken
from sameclock.lower import lower
from sameclock.machine import run_machine
from sameclock.meaning import meaning
from sameclock.papers import greatest_paper
from sameclock.plain import plain_run
from sameclock.printing import print_program
from sameclock.run import compile_text, run_text, same_trace
from code_reference import run_code, start_of
from good import good_program, other_secrets, random_inputs
from machine_reference import drawn_settings
from reference import tree_meaning

TOP = 2 ** 32 - 1
SETTINGS = ((4, 2, 4, "lru"), (2, 2, 8, "plru"), ("two", 8), 8, (10, 5), (("data", 3),), ((5, "touch", 9),))
OTHERS = (((1, 1, 1, "fifo"), (1, 1, 1, "fifo"), ("taken",), 0, (0, 1), (), ()), ((64, 8, 16, "plru"), (64, 8, 16, "lru"), ("history", 6), 64, (100, 100), (), ()))
TEXT = """secret array key[5]; public array box[3];
    fn f(secret x, public y) { secret z = x div 3; key[x] = z; for i to y max 4 { z = z + key[i]; } return z; }
    main(secret s, public p) { secret t = 0; if s { t = f(s, p); } else { t = f(3, 2); } box[p] = p mod 7;
    out box[p] * 2; return t + f(t, 2) + key[p]; }"""
CELLS = ((1, 2, 3, 4, 5), (6, 7, 8))
WRONG = (("main() { return 1 $ 2; }", BadCharacter), ("main() { return 01; }", BadNumber), ("main() { return ; }", Unexpected), ("", Unexpected),
         ("main(public a, secret a) { return a; }", DoubleName), ("main() { return a; }", UnknownName), ("public array a[65]; main() { return 0; }", WrongCount),
         ("main() { for i to 3 max 3 { i = 1; } return 0; }", FixedName), ("main(secret s) { out s; return 0; }", Leak))


class TestCompiling(unittest.TestCase):
    def test_texts(self):
        for text in ("main() { return 0; }", TEXT, "main(secret a, secret b) { return a div b; }"):
            for optimised in (True, False):
                code = compile_text(text, optimised=optimised)
                self.assertIs(is_code(code), True)
                self.assertIs(taken(code), True)
            self.assertEqual(compile_text(text), compile_text(text, optimised=True))

    def test_without_passes(self):
        for text in (TEXT, "main(public p) { return p * 1 + 0; }"):
            program = typed(text)
            made = lower(program)
            code = compile_text(text, optimised=False)
            self.assertEqual(code, emit(made, program[2][1], allocate(made, program[2][1])))

    def test_passes_are_done(self):
        """Each pass leaves its mark on a text that gives it something to do; left out, more rows would be left."""
        for text, most in (
                ("main() { return 3 * 4 + 5; }", 2), ("main(public p) { return (p * p + p) ^ (p * p + p); }", 5),
                ("main(public p) { public q = p * p; return 7; }", 3), ("main(public p) { if 1 { out p; } else { out 5; } return 3; }", 4)):
            self.assertLessEqual(len(compile_text(text)[1]), most, text)
            self.assertGreater(len(compile_text(text, optimised=False)[1]), most, text)

    def test_each_pass_is_done(self):
        asked = []
        program = lower(typed(TEXT))
        kept = run.optimise
        try:
            run.optimise = lambda made, names: asked.append((made, names)) or kept(made, names)
            compile_text(TEXT, optimised=False)
            self.assertEqual(asked, [])
            compile_text(TEXT)
        finally:
            run.optimise = kept
        self.assertEqual(set(name for _, names in asked for name in names), {"fold", "copies", "common", "dead", "jumps"})
        self.assertEqual(asked[0][0], program)

    def test_regions(self):
        for optimised in (True, False):
            regions = compile_text(TEXT, optimised=optimised)[0]
            self.assertEqual(regions[:4], ((0, 8, "secret"), (8, 4, "public"), (12, 1, "secret"), (13, 1, "public")))

    def test_errors(self):
        for text, error in WRONG:
            for optimised in (True, False):
                with self.assertRaises(error) as caught:
                    compile_text(text, optimised=optimised)
                self.assertIs(type(caught.exception), error)
                with self.assertRaises(error):
                    run_text(text, (), (), SETTINGS, optimised=optimised)
            with self.assertRaises(error):
                same_trace(text, ((), ()), ((), ()), SETTINGS)

    def test_the_first_error_is_raised(self):
        with self.assertRaises(BadCharacter):
            compile_text("main( { return $; }")
        with self.assertRaises(Unexpected) as caught:
            compile_text("main(secret s) {\n  out s;\n  return }")
        self.assertEqual((caught.exception.row, caught.exception.column), (3, 10))
        with self.assertRaises(Leak) as caught:
            compile_text("main(secret s) { out s; return t; }")
        self.assertEqual(caught.exception.word, "out")


class TestRunning(unittest.TestCase):
    def test_example(self):
        program = typed(TEXT)
        for inputs in itertools.product((0, 1, 4, TOP), (0, 2, 3, 9)):
            wanted = meaning(program, inputs, CELLS)
            for settings in (SETTINGS,) + OTHERS:
                for optimised in (True, False):
                    outs, result, contents, trace = run_text(TEXT, inputs, CELLS, settings, optimised=optimised)
                    self.assertEqual((outs, result, contents), wanted)
                    code = compile_text(TEXT, optimised=optimised)
                    start = ((CELLS[0] + (0,) * 3, CELLS[1] + (0,)) + tuple((word,) for word in inputs) + tuple((0,) * size for _, size, _ in code[0][4:]))
                    self.assertEqual(trace, run_machine(code, start, settings, 10 ** 6)[3])

    def test_default(self):
        self.assertEqual(run_text(TEXT, (3, 2), CELLS, SETTINGS), run_text(TEXT, (3, 2), CELLS, SETTINGS, optimised=True))

    def test_parts(self):
        self.assertEqual(run_text("main() { return 0; }", (), (), OTHERS[0])[:3], ((), 0, ()))
        self.assertEqual(run_text("main(secret a, public b) { out b; out b + 1; return a; }", (5, 6), (), OTHERS[0])[:3], ((6, 7), 5, ()))
        text = "secret array a[3]; public array b[1]; main(public p) { a[p] = b[0]; b[p] = 9; return a[1]; }"
        for at, wanted in ((0, ((7, 2, 3), (9,))), (1, ((1, 7, 3), (7,))), (2, ((1, 2, 7), (7,))), (3, ((1, 2, 3), (7,))), (TOP, ((1, 2, 3), (7,)))):
            for optimised in (True, False):
                self.assertEqual(run_text(text, (at,), ((1, 2, 3), (7,)), SETTINGS, optimised=optimised)[2], wanted)

    def test_params_that_are_not_used(self):
        text = "main(secret a, public b, secret c) { return b; }"
        for optimised in (True, False):
            self.assertEqual(run_text(text, (1, 2, 3), (), SETTINGS, optimised=optimised)[:2], ((), 2))

    def test_a_hand_worked_trace(self):
        # 0: load 0 15 0 0, 1: out 0, 2: stop 0, where the param is the only region.
        text = "main(public p) { out p; return p; }"
        self.assertEqual(len(compile_text(text)[1]), 3)
        events = (("fetch", 0, 0, False), ("data", 10, 0, False), ("fetch", 11, 0, True), ("out", 22, 9), ("fetch", 23, 0, True), ("stop", 23))
        settings = ((1, 1, 1, "lru"), (1, 1, 4, "lru"), ("taken",), 0, (10, 5), (), ())
        self.assertEqual(run_text(text, (9,), (), settings), ((9,), 9, (), events))

    def test_limit(self):
        text = """public array a[1]; main(public p) { for i to 1000 max 1000 { for j to p max 1000 { a[0] = a[0] + 1; } } out a[0]; return 1; }"""
        for optimised in (True, False):
            outs, result, contents, trace = run_text(text, (1000,), ((5,),), OTHERS[0], optimised=optimised)
            self.assertEqual((outs, result), ((), None))
            code = compile_text(text, optimised=optimised)
            start = ((5,), (1000,)) + tuple((0,) * size for _, size, _ in code[0][2:])
            self.assertEqual(contents, (plain_run(code, start, 10 ** 6)[2][0],))
            self.assertGreater(contents[0][0], 5)
            self.assertNotIn(trace[-1][0], ("stop", "out"))
            self.assertEqual(run_text(text, (10,), ((5,),), OTHERS[0], optimised=optimised)[:3], ((10005,), 1, ((10005,),)))

    def test_the_limit_is_a_million_rows(self):
        text = "public array a[1]; main(public p) { for i to 1000 max 1000 { for j to p max 1000 { a[0] = a[0] + 1; } } return 1; }"
        code = compile_text(text)
        start = lambda p: ((0,), (p,)) + tuple((0,) * size for _, size, _ in code[0][2:])
        steps = lambda p: run_code(code, start(p), 10 ** 7)[3]
        self.assertLess(steps(1), 10 ** 6)
        great = next(p for p in range(1, 1000) if steps(1) + (p - 1) * (steps(2) - steps(1)) > 10 ** 6)
        for p in (great - 1, great):
            result = run_text(text, (p,), ((0,),), OTHERS[0])[1]
            self.assertEqual(result, 1 if steps(p) <= 10 ** 6 else None)
            self.assertEqual(result is None, p == great)

    def test_the_judge_is_asked(self):
        asked = []
        kept = run.judge
        try:
            run.judge = lambda code, paper: asked.append((code, paper)) or kept(code, paper)
            run_text(TEXT, (1, 2), CELLS, SETTINGS)
            run_text(TEXT, (1, 2), CELLS, SETTINGS, optimised=False)
        finally:
            run.judge = kept
        self.assertEqual([code for code, _ in asked], [compile_text(TEXT), compile_text(TEXT, optimised=False)])
        for code, paper in asked:
            self.assertEqual(paper, greatest_paper(code))

    def test_arguments_stay(self):
        inputs, contents = (3, 2), ((1, 2, 3, 4, 5), (6, 7, 8))
        first = run_text(TEXT, inputs, contents, SETTINGS)
        self.assertEqual((inputs, contents), ((3, 2), ((1, 2, 3, 4, 5), (6, 7, 8))))
        self.assertEqual(run_text(TEXT, inputs, contents, SETTINGS), first)


class TestSameTrace(unittest.TestCase):
    def test_secrets(self):
        for settings in (SETTINGS,) + OTHERS:
            for s, cells in itertools.product((0, 1, 9, TOP), ((1, 2, 3, 4, 5), (0, 0, 0, 0, TOP))):
                self.assertIs(same_trace(TEXT, ((3, 2), CELLS), ((s, 2), (cells, CELLS[1])), settings), True)

    def test_publics(self):
        self.assertIs(same_trace(TEXT, ((3, 2), CELLS), ((3, 1), CELLS), SETTINGS), False)
        self.assertIs(same_trace("main(public p) { out p; return 0; }", ((3,), ()), ((4,), ()), SETTINGS), False)
        self.assertIs(same_trace("main(public p) { out p; return 0; }", ((3,), ()), ((3,), ()), SETTINGS), True)
        # Nothing is done with this one.
        self.assertIs(same_trace("main(public p) { return 0; }", ((3,), ()), ((4,), ()), SETTINGS), True)
        text = "public array a[2]; main(public p) { if a[p] { out 1; } return 0; }"
        self.assertIs(same_trace(text, ((1,), ((0, 1),)), ((1,), ((5, 1),)), SETTINGS), True)
        self.assertIs(same_trace(text, ((1,), ((0, 1),)), ((1,), ((0, 0),)), SETTINGS), False)

    def test_results_are_not_seen(self):
        self.assertIs(same_trace("main(secret s) { return s; }", ((3,), ()), ((4,), ()), SETTINGS), True)

    def test_the_optimised_code_is_run(self):
        # Without passes the division would take as long as its operand tells.
        text = "main(public p) { public q = p div 1 + 1; return 0; }"
        traces = [run_text(text, (p,), (), OTHERS[0], optimised=False)[3] for p in (1, TOP)]
        self.assertNotEqual(traces[0], traces[1])
        self.assertIs(same_trace(text, ((1,), ()), ((TOP,), ()), OTHERS[0]), True)


class TestDrawn(unittest.TestCase):
    def test_drawn_texts(self):
        for number in range(120):
            tree = good_program(number)
            text = print_program(tree)
            inputs, contents = random_inputs(tree, number)
            settings = drawn_settings(number)
            wanted = tree_meaning(tree, inputs, contents)
            for optimised in (True, False):
                self.assertEqual(run_text(text, inputs, contents, settings, optimised=optimised)[:3], wanted)
            self.assertIs(same_trace(text, (inputs, contents), other_secrets(tree, inputs, contents, number), settings), True)

    def test_passes_make_runs_shorter(self):
        shorter = 0
        for number in range(60):
            tree = good_program(number)
            made = lower(typed(print_program(tree)))
            self.assertIs(is_ir(made), True)
            inputs, contents = random_inputs(tree, number)
            steps = []
            for optimised in (True, False):
                code = compile_text(print_program(tree), optimised=optimised)
                steps.append(run_code(code, start_of(code, made, inputs, contents), 10 ** 6)[3])
            shorter += steps[0] < steps[1]
        self.assertGreater(shorter, 50)


if __name__ == "__main__":
    unittest.main()
