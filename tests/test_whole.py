"""What the document promises over the whole program (points 0.3, 6.5, 6.6, 7.6 and 8.12)."""

import random
import unittest

from sameclock.allocate import allocate
from sameclock.attacks import flush_and_reload, prime_and_probe
from sameclock.check import check, typed
from sameclock.code_bytes import read_bytes, write_bytes
from sameclock.emit import emit
from sameclock.errors import ProgramError
from sameclock.judge import taken
from sameclock.listing import read_listing, write_listing
from sameclock.lower import lower
from sameclock.machine import run_machine
from sameclock.parser import parse
from sameclock.passes import optimise
from sameclock.plain import plain_run
from sameclock.printing import print_program
from sameclock.run import compile_text, run_text, same_trace
from sameclock.settings import is_settings
from sameclock.watch import apart, groups, learns_nothing
from changed import changed_program
from code_reference import drawn_allocation, start_of
from good import good_program, other_secrets, random_inputs
from machine_reference import drawn_settings
from reference import tree_meaning

NAMES = ("fold", "copies", "common", "dead", "jumps")
STEPS = 10 ** 6


class Case(unittest.TestCase):
    def whole(self, tree, number, code, program, runs=2):
        """The code is taken, gives the meaning, and shows the same for several choices of secrets."""
        self.assertIs(taken(code), True)
        inputs, contents = random_inputs(tree, number)
        choices = [(inputs, contents)] + [other_secrets(tree, inputs, contents, number * 7 + k) for k in range(2)]
        starts = tuple(start_of(code, program, *choice) for choice in choices)
        for choice, start in zip(choices, starts):
            outs, result, ends = plain_run(code, start, STEPS)
            ends = tuple(row[:length] for (_, _, length), row in zip(tree[0], ends))
            self.assertEqual((outs, result, ends), tree_meaning(tree, *choice))
        for k in range(runs):
            settings = drawn_settings(number * 11 + k)
            self.assertIs(learns_nothing(code, starts[0], starts, settings, STEPS), True)
            self.assertEqual(run_machine(code, starts[1], settings, STEPS)[:3], plain_run(code, starts[1], STEPS))


class TestPrograms(Case):
    def test_drawn_passes(self):
        for number in range(120):
            tree = good_program(number)
            chance = random.Random(number)
            made = optimise(lower(check(tree)), tuple(chance.choice(NAMES) for _ in range(chance.randrange(8))))
            params = tuple(label for label, _ in tree[2][1])
            self.whole(tree, number, emit(made, params, allocate(made, params)), made)

    def test_drawn_allocations(self):
        many = 0
        for number in range(120):
            tree = good_program(number + 5000)
            made = optimise(lower(check(tree)), NAMES)
            if sum(len(block) for block in made[2]) < 120:
                many += 1
                params = tuple(label for label, _ in tree[2][1])
                for kind in ("slots", "mixed"):
                    allocation = drawn_allocation(made, params, number, kind, slots=200)
                    self.whole(tree, number, emit(made, params, allocation), made)
        self.assertGreater(many, 30)

    def test_changed_programs_that_the_checker_takes(self):
        taken_ones = 0
        refused = 0
        for number in range(400):
            tree = changed_program(number)
            try:
                program = check(tree)
            except ProgramError:
                refused += 1
                continue
            taken_ones += 1
            text = print_program(tree)
            self.assertEqual(typed(text), program)
            for optimised in (True, False):
                self.whole(tree, number, compile_text(text, optimised=optimised), lower(program), runs=1)
        self.assertGreater(taken_ones, 60)
        self.assertGreater(refused, 60)

    def test_text_to_trace(self):
        for number in range(80):
            tree = good_program(number + 900)
            text = print_program(tree)
            self.assertEqual(parse(text), tree)
            inputs, contents = random_inputs(tree, number)
            others = other_secrets(tree, inputs, contents, number)
            settings = drawn_settings(number)
            self.assertIs(is_settings(settings), True)
            for optimised in (True, False):
                first = run_text(text, inputs, contents, settings, optimised=optimised)
                second = run_text(text, *others, settings, optimised=optimised)
                self.assertEqual(first[:3], tree_meaning(tree, inputs, contents))
                self.assertEqual(second[:3], tree_meaning(tree, *others))
                self.assertEqual(first[0], second[0])
                self.assertIsNone(apart(first[3], second[3]))
            self.assertIs(same_trace(text, (inputs, contents), others, settings), True)

    def test_code_that_was_written_and_read(self):
        for number in range(60):
            code = compile_text(print_program(good_program(number)), optimised=number % 2 == 0)
            self.assertEqual(read_bytes(write_bytes(code)), code)
            self.assertEqual(read_listing(write_listing(code)), code)


TEXT = """
secret array key[16];
public array box[8];
# Exchanges two cells, if they are not in order.
fn order(secret i, secret j) {
  secret a = key[i];
  secret b = key[j];
  if b < a { key[i] = b; key[j] = a; }
  return a - b;
}
fn sum(public many) {
  secret all = 0;
  for i to many max 16 { all = all + key[i] * key[i] mod 1000; }
  return all;
}
main(secret first, secret last, public many) {
  for i to many max 16 {
    for j to many max 15 { secret rest = order(j, j + 1); first = first ^ rest; }
  }
  if first < last { key[first mod 16] = sum(many) div (last + 1); } else { last = key[last & 15]; }
  box[many] = box[0] + many;
  out box[many];
  return first + last + key[3];
}
"""


class TestAttacks(Case):
    def test_attacks_on_a_program(self):
        """All ways of watching show what is public, and nothing else."""
        tree = parse(TEXT)
        for optimised in (True, False):
            code = compile_text(TEXT, optimised=optimised)
            program = lower(check(tree))
            contents = (tuple(range(16)), tuple(range(8)))
            choices = [((k, 3 * k, 4), (tuple((j * 7 + k * 5) % 100 for j in range(16)), contents[1])) for k in (0, 1, 9)] + [((2 ** 32 - 1, 0, 4), contents)]
            starts = tuple(start_of(code, program, *choice) for choice in choices)
            for number in range(6):
                settings = drawn_settings(number)
                visited = [settings, prime_and_probe(code, settings, 300), flush_and_reload(code, settings, 0, 200, 900), flush_and_reload(code, settings, len(code[0]) - 1, 0, 2500)]
                for other in visited:
                    self.assertIs(is_settings(other), True)
                    for what in ("all", "lines", "times", "visits"):
                        self.assertEqual(groups(code, starts[0], starts, other, what, STEPS), ((0, 1, 2, 3),))
            for start, (inputs, cells) in zip(starts, choices):
                outs, result, ends = plain_run(code, start, STEPS)
                self.assertEqual((outs, result), tree_meaning(tree, inputs, cells)[:2])

    def test_public_inputs_are_seen(self):
        contents = (tuple(range(16)), tuple(range(8)))
        settings = drawn_settings(3)
        self.assertIs(same_trace(TEXT, ((1, 2, 3), contents), ((7, 8, 3), contents), settings), True)
        self.assertIs(same_trace(TEXT, ((1, 2, 3), contents), ((1, 2, 4), contents), settings), False)


class TestLimits(Case):
    def test_deep_texts(self):
        """Statements and expressions that are nested 40 deep."""
        expr = "s"
        for k in range(39):
            expr = (f"({expr} + {k})", f"!{expr}", f"key[{expr}]", f"(p ? {expr} : 1)", f"f({expr})")[k % 5]
        inner = f"s = {expr};"
        for k in range(38):
            inner = (f"if s {{ {inner} }}", f"for i{k} to p max 1 {{ {inner} }}", f"if p {{ {inner} }} else {{ s = s + 1; }}")[k % 3]
        text = f"secret array key[3]; fn f(secret x) {{ key[x] = x + 1; return x + x; }} main(secret s, public p) {{ {inner} return s; }}"
        tree = parse(text)
        self.assertEqual(parse(print_program(tree)), tree)
        for optimised in (True, False):
            self.whole(tree, 5, compile_text(text, optimised=optimised), lower(check(tree)), runs=1)

    def test_calls_100_deep(self):
        text = "public array box[2]; fn f0(secret x) { return x + 1; }\n"
        for k in range(1, 100):
            text += f"fn f{k}(secret x) {{ return f{k - 1}(x) * {k}; }}\n"
        text += "main(secret s) { if s { s = f99(s); } return f99(s) + box[1]; }"
        tree = parse(text)
        for optimised in (True, False):
            self.whole(tree, 1, compile_text(text, optimised=optimised), lower(check(tree)), runs=1)

    def test_more_variables_than_there_are_slots(self):
        """Each variable is declared under secrets, and held for a short time only."""
        rows = "".join(f"if s < {k} {{ secret t{k} = s + {k}; s = s * t{k}; }} " for k in range(4200))
        text = f"main(public p, secret s) {{ {rows} return s; }}"
        tree = parse(text)
        for optimised in (True, False):
            self.whole(tree, 3, compile_text(text, optimised=optimised), lower(check(tree)), runs=1)

    def test_large_programs(self):
        parts = [f"secret x{k} = x{k - 1} * {k} + key[x{max(k - 3, 0)}];" for k in range(1, 40)]
        parts += [f"if p < {k} {{ out p + {k}; }} else {{ x0 = x0 ^ {k}; }}" for k in range(2500)]
        text = "secret array key[5]; main(secret x0, public p) { " + "\n".join(parts) + " return x39 + x0; }"
        tree = parse(text)
        for optimised in (True, False):
            code = compile_text(text, optimised=optimised)
            self.assertGreater(len(code[1]), 15000)
            self.whole(tree, 2, code, lower(check(tree)), runs=1)


if __name__ == "__main__":
    unittest.main()
