"""The judge (points 7.4 and 7.5), and that it takes the code of programs that keep their secrets (point 6.6)."""

import itertools
import random
import unittest

from sameclock.allocate import allocate
from sameclock.check import check
from sameclock.code_form import is_code
from sameclock.emit import emit
from sameclock.errors import ClockError, Refused
from sameclock.ir import SIGNS
from sameclock.ir_labels import keeps_secrets
from sameclock.judge import judge, taken
from sameclock.lower import lower
from sameclock.papers import greatest_paper, holds
from sameclock.passes import optimise
from code_reference import drawn_allocation, drawn_code, refusal, slow_behind, slow_ways
from flows import random_ir, random_jumps, random_labels
from good import good_program

STOP = ("stop", 0)
EVERY = tuple(range(16))
REGIONS = ((0, 4, "public"), (4, 4, "secret"), (8, 16, "public"), (24, 1, "secret"))
# Behind it register 1 is not public; 2 is, and all others are.
SECRET = ("load", 1, 2, 4, 3)
PAPERS = (True, False, None, 0, 1, "", "paper", (), ((),), ((), (), ()), [(), ()], ((), []), ((), None), ((), 0), ((), "0"), ((0, 0), ()), ((1, 0), ()),
          ((16,), ()), ((-1,), ()), ((True,), ()), ((False,), ()), ((0, True), ()), ((None,), ()), (("1",), ()), (((0,),), ()), {0: (), 1: ()}, ((), (), None))


def made(*rows, regions=REGIONS):
    code = (regions, rows)
    assert is_code(code), code
    return code


class Case(unittest.TestCase):
    def verdict(self, code, paper):
        """None, or the row and the word of the refusal."""
        try:
            self.assertIsNone(judge(code, paper))
        except Refused as error:
            return (error.row, error.word)
        return None

    def greatest(self, wanted, *rows, regions=REGIONS):
        """The code of these rows has this verdict with its greatest paper."""
        code = made(*rows, regions=regions)
        self.assertEqual(self.verdict(code, greatest_paper(code)), wanted)
        self.assertEqual(refusal(code, greatest_paper(code)), wanted)
        self.assertIs(taken(code), wanted is None)


class TestWords(Case):
    def test_what_is_taken(self):
        self.greatest(None, STOP)
        self.greatest(None, SECRET, ("stop", 1))
        self.greatest(None, SECRET, ("select", 3, 1, 1, 2), ("stop", 3))
        self.greatest(None, SECRET, ("store", 2, 4, 3, 1), ("load", 5, 2, 24, 0), ("store", 2, 24, 0, 5), STOP)
        self.greatest(None, SECRET, ("const", 1, 7), ("out", 1), ("branch", 1, 0), ("load", 1, 1, 8, 15), ("store", 1, 8, 7, 1), STOP)
        self.greatest(None, ("jump", 0), regions=())

    def test_branch(self):
        self.greatest((1, "branch"), SECRET, ("branch", 1, 0), STOP)
        self.greatest((1, "branch"), SECRET, ("branch", 1, 2), STOP)
        self.greatest(None, SECRET, ("branch", 2, 0), STOP)

    def test_out(self):
        self.greatest((1, "out"), SECRET, ("out", 1), STOP)
        self.greatest(None, SECRET, ("out", 2), STOP)

    def test_address(self):
        self.greatest((1, "address"), SECRET, ("load", 3, 1, 0, 3), STOP)
        self.greatest((1, "address"), SECRET, ("load", 1, 1, 4, 3), STOP)
        self.greatest((1, "address"), SECRET, ("store", 1, 4, 3, 2), STOP)
        self.greatest((1, "address"), SECRET, ("store", 1, 4, 0, 1), STOP)
        self.greatest((1, "address"), SECRET, ("load", 3, 1, 0, 0), STOP)
        self.greatest(None, SECRET, ("load", 3, 2, 0, 3), ("store", 2, 4, 3, 1), STOP)

    def test_cost(self):
        for sign in SIGNS:
            for a, b in ((1, 2), (2, 1), (1, 1)):
                self.greatest((1, "cost") if sign in ("div", "mod") else None, SECRET, ("op", sign, 3, a, b), STOP)
            self.greatest(None, SECRET, ("op", sign, 1, 2, 2), STOP)

    def test_region(self):
        for base, mask, wrong in ((0, 3, False), (1, 0, False), (1, 1, False), (1, 3, True), (3, 0, False), (3, 1, True), (4, 3, False), (4, 7, True), (7, 0, False), (7, 1, True),
                                  (8, 15, False), (8, 31, True), (9, 15, True), (9, 7, False), (16, 7, False), (17, 7, True), (23, 0, False), (23, 1, True), (24, 0, False),
                                  (24, 1, True), (25, 0, True), (26, 0, True), (500000, 0, True), (0, 4095, True), (500000, 4095, True)):
            self.greatest((0, "region") if wrong else None, ("load", 3, 2, base, mask), STOP)
            self.greatest((0, "region") if wrong else None, ("store", 2, base, mask, 2), STOP)

    def test_regions_of_one_label_side_by_side(self):
        regions = ((0, 2, "public"), (2, 2, "public"))
        self.greatest((0, "region"), ("load", 3, 2, 0, 3), STOP, regions=regions)
        self.greatest((0, "region"), ("store", 2, 1, 1, 2), STOP, regions=regions)
        self.greatest(None, ("load", 3, 2, 2, 1), STOP, regions=regions)

    def test_no_regions(self):
        self.greatest((0, "region"), ("load", 3, 2, 0, 0), STOP, regions=())
        self.greatest((0, "region"), ("store", 3, 0, 0, 2), STOP, regions=())

    def test_store(self):
        self.greatest((1, "store"), SECRET, ("store", 2, 0, 3, 1), STOP)
        self.greatest((1, "store"), SECRET, ("store", 2, 23, 0, 1), STOP)
        self.greatest(None, SECRET, ("store", 2, 4, 3, 1), STOP)
        self.greatest(None, SECRET, ("store", 2, 24, 0, 1), STOP)
        self.greatest(None, SECRET, ("store", 2, 0, 3, 2), STOP)

    def test_many_regions(self):
        regions = tuple((3 * k, 3, ("public", "secret")[k % 2]) for k in range(1000))
        for k in range(0, 1000, 37):
            self.greatest((1, "store") if k % 2 == 0 else None, ("load", 1, 2, 3, 0), ("store", 2, 3 * k, 1, 1), STOP, regions=regions)
            self.greatest((1, "region"), ("load", 1, 2, 3, 0), ("store", 2, 3 * k, 3, 1), STOP, regions=regions)


class TestOrder(Case):
    def test_several_on_one_row(self):
        self.greatest((1, "address"), SECRET, ("load", 3, 1, 3, 1), STOP)
        self.greatest((1, "address"), SECRET, ("store", 1, 3, 1, 1), STOP)
        self.greatest((1, "address"), SECRET, ("store", 1, 0, 3, 1), STOP)
        self.greatest((1, "region"), SECRET, ("store", 2, 3, 1, 1), STOP)
        self.greatest((1, "region"), SECRET, ("store", 2, 0, 7, 1), STOP)

    def test_the_first_row_is_told(self):
        wrong = {"branch": ("branch", 1, 0), "out": ("out", 1), "address": ("load", 3, 1, 0, 3), "cost": ("op", "mod", 3, 1, 2), "region": ("load", 3, 2, 3, 1),
                 "store": ("store", 2, 0, 0, 1)}
        for first, second in itertools.permutations(wrong, 2):
            self.greatest((1, first), SECRET, wrong[first], wrong[second], STOP)
            self.greatest((2, first), SECRET, ("const", 5, 1), wrong[first], wrong[second], STOP)
        for word, row in wrong.items():
            rows = (SECRET,) + (("const", 5, 1),) * 300 + (row, ("out", 1), STOP)
            self.greatest((301, word), *rows)

    def test_rows_that_are_never_come_to(self):
        self.greatest((2, "region"), ("jump", 3), ("const", 1, 1), ("load", 3, 2, 3, 1), STOP)
        self.greatest((2, "out"), ("jump", 3), SECRET, ("out", 1), STOP)
        self.greatest((3, "out"), ("jump", 3), SECRET, ("jump", 3), ("out", 1), STOP)
        self.greatest(None, STOP, ("out", 1), ("op", "div", 1, 2, 3), ("branch", 4, 0), ("store", 9, 0, 0, 8), STOP)
        self.greatest((1, "region"), STOP, ("store", 9, 25, 0, 8), STOP)

    def test_ways_that_are_only_guessed(self):
        # The branch is never taken, as register 2 is 0; but the machine may guess that it is.
        self.greatest((4, "address"), ("const", 2, 0), SECRET, ("branch", 2, 4), STOP, ("load", 3, 1, 0, 3), STOP)


class TestPapers(Case):
    def test_form(self):
        code = made(("load", 1, 2, 4, 3), STOP)
        for paper in PAPERS:
            self.assertEqual(self.verdict(code, paper), (-1, "paper"), paper)

    def test_papers_that_do_not_hold(self):
        code = made(("load", 1, 2, 4, 3), STOP)
        self.assertEqual(self.verdict(code, (EVERY, EVERY)), (-1, "paper"))
        self.assertEqual(self.verdict(code, ((), (2,))), (-1, "paper"))
        self.assertEqual(self.verdict(code, ((2,), (1,))), (-1, "paper"))
        self.assertIsNone(self.verdict(code, (EVERY, EVERY[:1] + EVERY[2:])))
        self.assertIsNone(self.verdict(code, ((2,), (2,))))
        self.assertIsNone(self.verdict(code, ((2,), ())))

    def test_the_paper_comes_first(self):
        code = made(("load", 1, 2, 3, 1), ("out", 1), STOP)
        self.assertEqual(self.verdict(code, (EVERY,) * 3), (-1, "paper"))
        self.assertEqual(self.verdict(code, None), (-1, "paper"))
        self.assertEqual(self.verdict(code, ((),) * 3), (0, "address"))
        self.assertEqual(self.verdict(code, ((2,), (), ())), (0, "region"))

    def test_smaller_papers(self):
        code = made(("const", 3, 1), ("out", 3), ("out", 4), ("branch", 5, 0), STOP)
        self.assertIsNone(self.verdict(code, (EVERY,) * 5))
        self.assertEqual(self.verdict(code, ((),) * 5), (1, "out"))
        self.assertEqual(self.verdict(code, ((), (3,), (), (), ())), (2, "out"))
        self.assertEqual(self.verdict(code, ((4,), (3, 4), (4,), (4,), ())), (3, "branch"))
        self.assertIsNone(self.verdict(code, ((4, 5), (3, 4, 5), (4, 5), (4, 5), ())))
        self.assertEqual(self.verdict(code, ((4, 5), (3, 4, 5), (4, 5), (5,), (4,))), (-1, "paper"))

    def test_members_of_each_operand(self):
        for row, needed, word in ((("branch", 5, 0), (5,), "branch"), (("out", 5), (5,), "out"), (("load", 1, 5, 0, 3), (5,), "address"),
                                  (("store", 5, 0, 3, 6), (5,), "address"), (("op", "div", 1, 5, 6), (5, 6), "cost"), (("op", "mod", 1, 5, 6), (5, 6), "cost")):
            code = made(row, STOP)
            value = (6,) if row[0] == "store" else ()
            self.assertIsNone(self.verdict(code, (tuple(sorted(needed + value)), ())))
            for left in needed:
                self.assertEqual(self.verdict(code, (tuple(a for a in EVERY if a != left), ())), (0, word))
        self.assertEqual(self.verdict(made(("store", 5, 0, 3, 6), STOP), ((5,), ())), (0, "store"))
        self.assertIsNone(self.verdict(made(("store", 5, 4, 3, 6), STOP), ((5,), ())))
        for row in (("op", "+", 1, 5, 6), ("select", 1, 5, 6, 7), ("const", 1, 5), ("stop", 5)):
            self.assertIsNone(self.verdict(made(row, STOP), ((), ())))

    def test_arguments_stay(self):
        code = made(SECRET, STOP)
        paper = greatest_paper(code)
        judge(code, paper)
        taken(code)
        self.assertEqual((code, paper), (made(SECRET, STOP), (EVERY, EVERY[:1] + EVERY[2:])))

    def test_refused(self):
        with self.assertRaises(ClockError) as caught:
            judge(made(SECRET, ("out", 1), STOP), ((2,), (), ()))
        self.assertIs(type(caught.exception), Refused)
        self.assertEqual((caught.exception.row, caught.exception.word), (1, "out"))
        self.assertNotIsInstance(caught.exception.row, bool)


class TestDrawn(Case):
    def test_any_paper(self):
        found = {}
        for number in range(6000):
            chance = random.Random(number)
            code = drawn_code(number, most_rows=3, count=4)
            paper = tuple(tuple(sorted(chance.sample(range(4), chance.choice([0, 2, 3, 4])))) for _ in code[1])
            held = all(set(paper[way]) <= set(slow_behind(code, r, paper[r])) for r in range(len(code[1])) for way in slow_ways(code, r))
            wanted = refusal(code, paper) if held else (-1, "paper")
            self.assertEqual(self.verdict(code, paper), wanted)
            found[wanted and wanted[1]] = found.get(wanted and wanted[1], 0) + 1
        self.assertEqual(set(found), {None, "paper", "branch", "out", "address", "cost", "region", "store"})

    def test_greatest_papers(self):
        found = {}
        for number in range(4000):
            code = drawn_code(number, count=5)
            wanted = refusal(code, greatest_paper(code))
            self.assertEqual(self.verdict(code, greatest_paper(code)), wanted)
            self.assertIs(taken(code), wanted is None)
            found[wanted and wanted[1]] = found.get(wanted and wanted[1], 0) + 1
        self.assertEqual(set(found), {None, "branch", "out", "address", "cost", "region", "store"})

    def test_what_is_taken_with_any_paper_is_taken_with_the_greatest(self):
        many = 0
        for number in range(1500):
            code = drawn_code(number, most_rows=4, count=3)
            chance = random.Random(number)
            for _ in range(15):
                paper = tuple(tuple(sorted(chance.sample(range(3), chance.choice([0, 1, 2, 3])))) for _ in code[1])
                if self.verdict(code, paper) is None:
                    self.assertTrue(holds(code, paper))
                    self.assertIs(taken(code), True)
                    many += 1
        self.assertGreater(many, 500)

    def test_long_code(self):
        rows = (SECRET,) + tuple(("op", "+", 3 + k % 9, 1, 2) for k in range(99998)) + (("jump", 0),)
        self.greatest(None, *rows)
        self.greatest((99998, "out"), *rows[:-2], ("out", 5), STOP)


class TestCodeOfPrograms(Case):
    def test_drawn_programs_that_keep_their_secrets(self):
        kept = 0
        for number in range(1500):
            for program in (random_ir(number, 4, 5), random_jumps(number)):
                params = random_labels(program, number)
                if keeps_secrets(program, params):
                    kept += 1
                    for allocation in (allocate(program, params), drawn_allocation(program, params, number, "slots"), drawn_allocation(program, params, number, "mixed")):
                        self.assertIs(taken(emit(program, params, allocation)), True)
        self.assertGreater(kept, 1000)

    def test_code_of_texts(self):
        for number in range(150):
            program = check(good_program(number))
            made_of = lower(program)
            names = ("fold", "copies", "common", "dead", "jumps")
            for ready in (made_of, optimise(made_of, names[:number % 6])):
                params = program[2][1]
                self.assertIs(taken(emit(ready, params, allocate(ready, params))), True)

    def test_code_of_a_program_that_gives_its_secret_away(self):
        program = ((), 1, ((("out", 0), ("stop", 0)),))
        self.assertEqual(taken(emit(program, ("secret",), (("register", 0),))), False)
        self.assertEqual(taken(emit(program, ("public",), (("register", 0),))), True)


if __name__ == "__main__":
    unittest.main()
