"""The names and arguments of the interface exist as they are written, in the files where they are listed."""

import importlib
import inspect
import unittest

FUNCTIONS = {
    "tokens": ["tokens(text)"],
    "parser": ["parse(text)", "parse_expr(text)"],
    "printing": ["print_program(program)", "print_expr(expr)"],
    "check": ["check(program)", "typed(text)", "label_of(program, labels, expr)"],
    "meaning": ["meaning(typed, inputs, contents)", "called(typed, p, values, contents)"],
    "ir": ["apply(sign, a, b)", "size_of(length)", "is_ir(thing)", "run_ir(program, inputs, contents, steps)"],
    "ir_labels": ["public_registers(program, params)", "keeps_secrets(program, params)"],
    "lower": ["lower(typed)"],
    "known": ["known_numbers(program)"],
    "passes": ["fold(program)", "copies(program)", "common(program)", "dead(program)", "jumps(program)",
               "optimise(program, names)", "needed_at(program)", "stand_for(program)"],
    "code_form": ["is_code(thing)", "reads(row)", "writes(row)"],
    "live": ["live_at(program)", "live_behind(program)"],
    "allocate": ["allocate(program, params)", "fits(program, params, allocation)"],
    "emit": ["emit(program, params, allocation)", "regions_of(program, params, allocation)"],
    "code_bytes": ["write_bytes(code)", "read_bytes(row)"],
    "listing": ["write_listing(code)", "read_listing(text)"],
    "papers": ["public_behind(code, r, member)", "ways(code, r)", "holds(code, paper)", "greatest_paper(code)"],
    "judge": ["judge(code, paper)", "taken(code)"],
    "settings": ["is_cache(thing)", "is_predictor(thing)", "is_settings(thing)"],
    "machine": ["cost_of(sign, a, b)", "run_machine(code, contents, settings, steps)"],
    "plain": ["plain_run(code, contents, steps)"],
    "watch": ["mixed(code, contents, others)", "view(trace, what)", "apart(first, second)", "groups(code, contents, choices, settings, what, steps)",
              "learns_nothing(code, contents, choices, settings, steps)"],
    "attacks": ["own_address(code, settings, way, number)", "prime_and_probe(code, settings, n)", "flush_and_reload(code, settings, region, n, m)"],
    "run": ["compile_text(text, *, optimised=True)", "run_text(text, inputs, contents, settings, *, optimised=True)", "same_trace(text, first, second, settings)"],
}
CLASSES = {
    "cache": {"Cache": ["__init__(self, settings)", "line_of(self, address)", "touch(self, address)", "drop(self, address)", "places(self, number)"]},
    "predict": {"Predictor": ["__init__(self, settings)", "guess(self, row)", "learn(self, row, taken)"]},
}
VALUES = {"tokens": ["KEYWORDS"], "ir": ["SIGNS"]}


class TestInterface(unittest.TestCase):
    def test_functions(self):
        for name, listed in FUNCTIONS.items():
            module = importlib.import_module("sameclock." + name)
            for text in listed:
                function = getattr(module, text.partition("(")[0])
                self.assertEqual(function.__name__ + str(inspect.signature(function)), text)
                self.assertEqual(function.__module__, "sameclock." + name)

    def test_classes(self):
        for name, classes in CLASSES.items():
            module = importlib.import_module("sameclock." + name)
            for word, listed in classes.items():
                made = getattr(module, word)
                self.assertEqual((made.__name__, made.__module__), (word, "sameclock." + name))
                for text in listed:
                    # Defined in the class itself.
                    function = vars(made)[text.partition("(")[0]]
                    self.assertEqual(function.__name__ + str(inspect.signature(function)), text)

    def test_values(self):
        for name, listed in VALUES.items():
            module = importlib.import_module("sameclock." + name)
            for value in listed:
                self.assertIs(type(getattr(module, value)), tuple)


if __name__ == "__main__":
    unittest.main()
