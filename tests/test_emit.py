"""The code of a program (points 6.5 and 6.6), and the whole way from a text to code."""

import itertools
import random
import unittest

from sameclock.allocate import allocate
from sameclock.check import check, typed
from sameclock.code_form import is_code
from sameclock.emit import emit, regions_of
from sameclock.errors import BadAllocation, CodeError
from sameclock.ir import SIGNS, is_ir, run_ir
from sameclock.ir_labels import keeps_secrets
from sameclock.lower import lower
from sameclock.meaning import meaning
from sameclock.papers import greatest_paper
from sameclock.passes import optimise
from code_reference import drawn_allocation, refusal, run_code, slow_fits, slow_regions, start_of
from flows import random_ir, random_jumps, random_labels, random_state
from good import good_program, random_inputs
from reference import traced, tree_meaning

ARRAYS = (("pub", 3, "public"), ("sec", 4, "secret"), ("one", 1, "secret"))
TOP = 2 ** 32 - 1
NAMES = ("fold", "copies", "common", "dead", "jumps")
KINDS = ("registers", "slots", "mixed")


def r(k):
    return ("register", k)


class Case(unittest.TestCase):
    def runs(self, program, params, allocation, inputs, contents, most=300):
        """Emits a program, runs the code and the program; gives the code."""
        code = emit(program, params, allocation)
        self.assertIs(is_code(code), True)
        self.assertEqual(code[0], slow_regions(program, params, allocation))
        self.assertEqual(regions_of(program, params, allocation), code[0])
        wanted = run_ir(program, inputs, contents, most)
        if wanted is not None:
            start = start_of(code, program, inputs, contents)
            # Arrays as long as their size, so that what is behind the lengths is seen.
            longer = tuple((name, len(cells), label) for (name, _, label), cells in zip(program[0], start))
            ends, _, steps = traced((longer,) + program[1:], inputs, start[:len(longer)])
            found = run_code(code, start, 20 * steps + 10 * program[1])
            self.assertIsNotNone(found, "too many rows")
            self.assertEqual(found[:2], wanted[:2])
            self.assertEqual(tuple(row[:len(cells)] for row, cells in zip(found[2], contents)), wanted[2])
            self.assertEqual(found[2][:len(longer)], ends[2])
        if keeps_secrets(program, params):
            self.assertIsNone(refusal(code, greatest_paper(code)))
        return code

    def all_kinds(self, program, params, inputs, contents, number=0):
        for kind in KINDS:
            allocation = drawn_allocation(program, params, number, kind)
            if allocation is not None:
                self.runs(program, params, allocation, inputs, contents)
        self.runs(program, params, allocate(program, params), inputs, contents)


class TestRegions(unittest.TestCase):
    def regions(self, wanted, arrays, params, allocation):
        program = (arrays, len(params), ((("jump", 0),),))
        self.assertEqual(regions_of(program, params, allocation), wanted)
        self.assertEqual(slow_regions(program, params, allocation), wanted)

    def test_nothing(self):
        self.regions((), (), (), ())
        self.regions((), (), (), (r(0), r(11)))

    def test_arrays(self):
        arrays = tuple(("a", length, "secret") for length in (1, 2, 3, 4, 5, 8, 9, 16, 17, 32, 33, 63, 64))
        sizes = [1, 2, 4, 4, 8, 8, 16, 16, 32, 32, 64, 64, 64]
        self.regions(tuple((sum(sizes[:k]), size, "secret") for k, size in enumerate(sizes)), arrays, (), ())

    def test_order_and_labels(self):
        self.regions(((0, 4, "public"), (4, 4, "secret"), (8, 1, "secret"), (9, 1, "secret"), (10, 1, "public"), (11, 2, "public"), (13, 8, "secret")),
                     ARRAYS, ("secret", "public"), (("secret", 5), ("public", 1), r(3), ("public", 0)))

    def test_no_slots_of_a_label(self):
        self.regions(((0, 1, "public"), (1, 1, "public")), (), ("public",), (("public", 0),))
        self.regions(((0, 1, "public"), (1, 1, "secret")), (), ("public",), (r(0), ("secret", 0)))
        self.regions(((0, 1, "public"),), (), ("public",), (r(0), r(0)))

    def test_slots_around_powers_of_two(self):
        for k in range(13):
            for slot, size in ((2 ** k - 1, 2 ** k), (2 ** k, 2 ** (k + 1)), (max(2 ** k - 2, 0), 2 ** k if k > 1 else 1)):
                if slot <= 4095:
                    self.regions(((0, size, "public"),), (), (), (("public", slot),))
                    self.regions(((0, size, "secret"),), (), (), (r(2), ("secret", 0), ("secret", slot), ("secret", 0)))
        self.regions(((0, 4096, "public"), (4096, 4096, "secret")), (), (), (("public", 4095), ("secret", 4095)))

    def test_all_places_count(self):
        self.regions(((0, 1, "public"), (1, 16, "public")), (), ("public",), (r(0), ("public", 8), r(0)))

    def test_allocation_need_not_fit(self):
        program = ((), 1, ((("const", 1, 2), ("stop", 0)),))
        self.assertEqual(regions_of(program, ("secret",), (("public", 3), ("public", 3))), ((0, 1, "secret"), (1, 4, "public")))


class TestEmit(Case):
    def test_each_kind_of_row(self):
        contents = ((5, 6, 7), (8, 9, 10, 11), (12,))
        rows = [("const", 4, 77), ("const", 0, TOP), ("copy", 4, 2), ("copy", 2, 2), ("select", 4, 0, 1, 2), ("select", 0, 0, 0, 1),
                ("select", 4, 3, 1, 2), ("load", 4, 0, 1), ("load", 1, 1, 1), ("load", 4, 2, 0), ("store", 0, 0, 1), ("store", 1, 2, 0), ("store", 2, 2, 2),
                ("out", 2), ("out", 3)]
        rows += [("op", sign, 4, 0, 1) for sign in SIGNS] + [("op", sign, 0, 0, 0) for sign in SIGNS]
        for number, row in enumerate(rows):
            end = (("out", 0), ("out", 1), ("out", 2), ("out", 4), ("stop", 4))
            for inputs in ((0, 3, 9), (4, 2, TOP)):
                self.all_kinds((ARRAYS, 3, ((row,) + end,)), ("public",) * 3, inputs, contents, number)
                self.all_kinds((ARRAYS, 3, ((row,) + end,)), ("secret", "public", "secret"), inputs, contents, number)

    def test_last_rows(self):
        blocks = ((("branch", 0, 2, 1),), (("out", 1), ("jump", 4)), (("branch", 1, 3, 4),), (("out", 0), ("jump", 1)), (("branch", 2, 5, 5),), (("stop", 2),))
        for inputs in itertools.product((0, 1), repeat=3):
            self.all_kinds((ARRAYS, 3, blocks), ("public",) * 3, inputs, ((0,) * 3, (0,) * 4, (0,)))

    def test_blocks_that_are_jumps_alone(self):
        self.all_kinds(((), 0, ((("jump", 1),), (("jump", 2),), (("jump", 3),), (("stop", 0),))), (), (), ())
        self.all_kinds(((), 0, ((("jump", 2),), (("stop", 0),), (("jump", 1),))), (), (), ())
        code = emit(((), 0, ((("jump", 0),),)), (), ())
        self.assertIs(is_code(code), True)
        self.assertIsNone(run_code(code, (), 50))
        code = emit(((), 0, ((("jump", 1),), (("jump", 0),))), (), ())
        self.assertIs(is_code(code), True)
        self.assertIsNone(run_code(code, (), 50))

    def test_jumps_back_to_the_first_block(self):
        program = ((), 1, ((("out", 0), ("op", "-", 0, 0, 1), ("const", 1, 1), ("branch", 0, 0, 1)), (("stop", 0),)))
        self.all_kinds(program, ("public",), (5,), ())

    def test_arrays_whose_length_is_less_than_their_size(self):
        for at in range(10):
            program = (ARRAYS, 2, ((("store", 0, 0, 1), ("load", 2, 0, 0), ("out", 2), ("const", 3, 3), ("load", 3, 0, 3), ("stop", 3)),))
            self.all_kinds(program, ("public", "public"), (at, 99), ((5, 6, 7), (8, 9, 10, 11), (12,)))

    def test_params_that_are_dead_at_the_beginning(self):
        program = ((), 3, ((("const", 1, 7), ("op", "+", 0, 0, 1), ("stop", 0)),))
        for places in ((r(0), r(1), r(0)), (r(0), r(1), r(1)), (("secret", 0), r(1), ("public", 0)), (r(4), ("public", 0), r(4)), (r(4), ("public", 0), ("public", 0))):
            self.runs(program, ("secret", "public", "public"), places, (5, 6, 8), ())

    def test_params_with_labels_that_their_registers_have_not(self):
        program = ((), 2, ((("out", 1), ("copy", 0, 1), ("stop", 0)),))
        self.all_kinds(program, ("secret", "public"), (5, 6), ())
        program = ((), 2, ((("stop", 0),), (("copy", 0, 1), ("jump", 1))))
        self.runs(program, ("public", "secret"), (("secret", 3), ("secret", 4)), (5, 6), ())

    def test_registers_begin_with_0(self):
        program = ((), 1, ((("out", 5), ("op", "+", 6, 6, 0), ("out", 6), ("stop", 7)),))
        self.all_kinds(program, ("public",), (9,), ())

    def test_many_slots(self):
        places = (("public", 4095), ("secret", 4095), ("public", 0), ("secret", 0), ("secret", 2047))
        program = (ARRAYS, 2, ((("copy", 2, 0), ("copy", 3, 1), ("op", "+", 4, 3, 1), ("out", 2), ("select", 1, 1, 4, 3), ("stop", 1)),))
        self.runs(program, ("public", "secret"), places, (7, 8), ((1, 2, 3), (4, 5, 6, 7), (8,)))

    def test_at_most_20_rows_for_each_step(self):
        row = ("select", 3, 0, 1, 2)
        program = ((), 3, ((row,) * 50 + (("stop", 3),),))
        code = self.runs(program, ("public",) * 3, tuple(("public", k) for k in range(4)), (1, 2, 3), ())
        self.assertLessEqual(len(code[1]), 20 * 51 + 30)

    def test_bad_allocations(self):
        program = ((), 2, ((("op", "+", 2, 0, 1), ("stop", 2)),))
        for allocation in ((r(0), r(0), r(2)), (r(0), r(1)), (r(0), r(1), r(2), r(3)), (("public", 0), r(1), r(2)), (r(0), r(1), r(12)), (), None, True, 5,
                           "x", [r(0), r(1), r(2)]):
            with self.assertRaises(BadAllocation):
                emit(program, ("secret", "public"), allocation)
        self.assertTrue(issubclass(BadAllocation, CodeError))
        self.runs(program, ("secret", "public"), (r(0), r(1), r(2)), (3, 4), ())

    def test_drawn_bad_allocations(self):
        raised = 0
        for number in range(300):
            program = random_ir(number)
            params = random_labels(program, number)
            places = list(drawn_allocation(program, params, number, "mixed"))
            chance = random.Random(number)
            if not places:
                continue
            places[chance.randrange(len(places))] = chance.choice(places)
            if slow_fits(program, params, tuple(places)):
                self.runs(program, params, tuple(places), *random_state(program, number))
            else:
                raised += 1
                self.assertRaises(BadAllocation, emit, program, params, tuple(places))
        self.assertGreater(raised, 30)

    def test_arguments_stay(self):
        program = random_ir(12)
        params = random_labels(program, 1)
        allocation = allocate(program, params)
        self.assertEqual(emit(program, params, allocation), emit(random_ir(12), params, allocation))
        self.assertEqual(program, random_ir(12))


class TestDrawn(Case):
    def test_drawn_programs(self):
        for number in range(500):
            for program in (random_ir(number), random_jumps(number)):
                params = random_labels(program, number)
                self.all_kinds(program, params, *random_state(program, number), number)

    def test_programs_that_keep_their_secrets(self):
        kept = 0
        for number in range(1500):
            program = random_ir(number, 4, 5)
            params = random_labels(program, number)
            if keeps_secrets(program, params) and "secret" in params:
                kept += 1
                for kind in KINDS:
                    allocation = drawn_allocation(program, params, number, kind)
                    code = emit(program, params, allocation)
                    self.assertIsNone(refusal(code, greatest_paper(code)), number)
        self.assertGreater(kept, 100)


class TestWholeWay(Case):
    def whole(self, program, wanted, inputs, contents, number):
        chance = random.Random(number)
        params = program[2][1]
        made = lower(program)
        names = tuple(chance.choice(NAMES) for _ in range(chance.randrange(7)))
        for ready in (made, optimise(made, names)):
            self.assertTrue(is_ir(ready))
            code = emit(ready, params, allocate(ready, params))
            found = run_code(code, start_of(code, ready, inputs, contents), 10 ** 6)
            ends = tuple(row[:len(cells)] for row, cells in zip(found[2], contents))
            self.assertEqual(found[:2] + (ends,), wanted)
            self.assertIsNone(refusal(code, greatest_paper(code)))

    def test_good_programs(self):
        for number in range(150):
            tree = good_program(number)
            inputs, contents = random_inputs(tree, number)
            self.whole(check(tree), tree_meaning(tree, inputs, contents), inputs, contents, number)

    def test_small_programs_with_drawn_allocations(self):
        for number in range(60):
            tree = good_program(number)
            made = optimise(lower(check(tree)), NAMES)
            if sum(len(block) for block in made[2]) < 150:
                params = tuple(label for label, _ in tree[2][1])
                inputs, contents = random_inputs(tree, number)
                for kind in ("slots", "mixed"):
                    allocation = drawn_allocation(made, params, number, kind, slots=200)
                    self.runs(made, params, allocation, inputs, contents, 10 ** 5)

    def test_text(self):
        text = """secret array key[5]; public array box[3];
            fn f(secret x, public y) { secret z = x div 3; key[x] = z; for i to y max 4 { z = z + key[i]; } return z; }
            main(secret s, public p) { secret t = 0; if s { t = f(s, p); } else { t = f(3, 2); } box[p] = p mod 7;
            out box[p] * 2; return t + f(t, 2) + key[p]; }"""
        contents = ((1, 2, 3, 4, 5), (6, 7, 8))
        program = typed(text)
        for number, inputs in enumerate(itertools.product((0, 1, 4, TOP), (0, 2, 3, 9))):
            self.whole(program, meaning(program, inputs, contents), inputs, contents, number)


if __name__ == "__main__":
    unittest.main()
