"""Watching (points 9.1 to 9.4), and that code which the judge takes shows nothing of its secrets (point 7.6)."""

import random
import unittest

from sameclock.judge import taken
from sameclock.machine import run_machine
from sameclock.watch import apart, groups, learns_nothing, mixed, view
from machine_reference import drawn_code, drawn_contents, drawn_settings, drawn_taken_code, other_secret_contents

VIEWS = ("all", "lines", "times", "visits")
DATA = (4, 2, 1, "lru")
FETCH = (1, 1, 16, "lru")
SETTINGS = (DATA, FETCH, ("two", 4), 8, (10, 5), (), ((3, "touch", 40), (4, "drop", 4), (4, "touch", 5)))
REGIONS = ((0, 4, "public"), (4, 4, "secret"), (8, 1, "public"), (9, 1, "secret"))
CONTENTS = ((1, 2, 3, 4), (5, 6, 7, 8), (9,), (10,))


def with_secret(word):
    return (CONTENTS[0], CONTENTS[1], CONTENTS[2], (word,))


class TestMixed(unittest.TestCase):
    def test_mixed(self):
        code = (REGIONS, (("stop", 0),))
        others = ((11, 12, 13, 14), (15, 16, 17, 18), (19,), (20,))
        self.assertEqual(mixed(code, CONTENTS, others), ((1, 2, 3, 4), (15, 16, 17, 18), (9,), (20,)))
        self.assertEqual(mixed(code, others, CONTENTS), ((11, 12, 13, 14), (5, 6, 7, 8), (19,), (10,)))
        self.assertEqual(mixed(code, CONTENTS, CONTENTS), CONTENTS)
        self.assertEqual(mixed(((), (("stop", 0),)), (), ()), ())
        for label in ("public", "secret"):
            code = (((0, 1, label),), (("stop", 0),))
            self.assertEqual(mixed(code, ((1,),), ((2,),)), ((1,),) if label == "public" else ((2,),))


class TestViews(unittest.TestCase):
    trace = (("touch", 0, 3, False), ("fetch", 0, 0, False), ("data", 10, 2, False), ("fetch", 11, 0, True), ("guess", 11, 1, True), ("back", 16, 1), ("drop", 16, 3, True),
             ("fetch", 16, 0, True), ("out", 16, 77), ("fetch", 17, 0, True), ("stop", 17))

    def test_all(self):
        self.assertEqual(view(self.trace, "all"), self.trace)

    def test_lines(self):
        wanted = (("touch", 3, False), ("fetch", 0, False), ("data", 2, False), ("fetch", 0, True), ("guess", 1, True), ("back", 1), ("drop", 3, True), ("fetch", 0, True), ("out", 77),
                  ("fetch", 0, True), ("stop",))
        self.assertEqual(view(self.trace, "lines"), wanted)

    def test_times(self):
        self.assertEqual(view(self.trace, "times"), (("touch", 0, 3, False), ("drop", 16, 3, True), ("out", 16, 77), ("stop", 17)))

    def test_visits(self):
        self.assertEqual(view(self.trace, "visits"), (("touch", 3, False), ("drop", 3, True)))

    def test_no_events(self):
        for what in VIEWS:
            self.assertEqual(view((), what), ())

    def test_of_runs(self):
        for number in range(100):
            code = drawn_code(number)
            trace = run_machine(code, drawn_contents(code, number), drawn_settings(number), 40)[3]
            self.assertEqual(view(trace, "all"), trace)
            self.assertEqual(view(trace, "lines"), tuple((kind, *rest) for kind, _, *rest in trace))
            self.assertEqual(view(trace, "times"), tuple(event for event in trace if event[0] not in ("fetch", "data", "guess", "back")))
            self.assertEqual(view(trace, "visits"), tuple((kind, line, found) for kind, _, line, found in [event for event in trace if event[0] in ("touch", "drop")]))


class TestApart(unittest.TestCase):
    def test_equal(self):
        for events in ((), (("stop", 5),), (("fetch", 0, 0, False), ("stop", 5))):
            self.assertIsNone(apart(events, tuple(events)))

    def test_different(self):
        a, b, c = ("fetch", 0, 0, False), ("fetch", 0, 0, True), ("stop", 3)
        self.assertEqual(apart((a,), (b,)), (0, a, b))
        self.assertEqual(apart((a, c), (b, c)), (0, a, b))
        self.assertEqual(apart((c, a), (c, b)), (1, a, b))
        self.assertEqual(apart((c, b), (c, a)), (1, b, a))
        self.assertEqual(apart((c, a, c, a), (c, a, a, b)), (2, c, a))

    def test_one_that_ends(self):
        a, c = ("fetch", 0, 0, False), ("stop", 3)
        self.assertEqual(apart((), (a,)), (0, None, a))
        self.assertEqual(apart((a,), ()), (0, a, None))
        self.assertEqual(apart((a, c), (a,)), (1, c, None))
        self.assertEqual(apart((a,), (a, c, a)), (1, None, c))
        self.assertEqual(apart((a,), (c, a)), (0, a, c))

    def test_drawn(self):
        for number in range(500):
            chance = random.Random(number)
            first, second = (tuple((chance.choice("ab"),) for _ in range(chance.randrange(5))) for _ in range(2))
            found = apart(first, second)
            if first == second:
                self.assertIsNone(found)
                continue
            index, x, y = found
            self.assertEqual(first[:index], second[:index])
            self.assertEqual((first[index:index + 1], second[index:index + 1]), ((x,) if x else (), (y,) if y else ()))
            self.assertNotEqual(x, y)


class TestGroups(unittest.TestCase):
    # The secret word tells which of the first lines is touched.
    address = (REGIONS, (("load", 1, 0, 9, 0), ("load", 2, 1, 0, 3), ("load", 3, 0, 4, 0), ("stop", 0)))
    # It tells how long a division takes.
    cost = (REGIONS, (("load", 1, 0, 9, 0), ("const", 2, 1), ("op", "div", 3, 1, 2), ("out", 4), ("out", 3), ("stop", 3)))
    # It tells which row is fetched, though all rows are in one line and take the same time.
    branch = (REGIONS, (("load", 1, 0, 9, 0), ("branch", 1, 3), ("jump", 3), ("stop", 0)))

    def test_by_addresses(self):
        choices = tuple(with_secret(word) for word in (0, 1, 4, 2, 5, 3, 0))
        self.assertEqual(groups(self.address, CONTENTS, choices, SETTINGS, "all", 100), ((0, 2, 6), (1, 4), (3,), (5,)))
        self.assertEqual(groups(self.address, CONTENTS, choices, SETTINGS, "lines", 100), ((0, 2, 6), (1, 4), (3,), (5,)))
        self.assertIs(learns_nothing(self.address, CONTENTS, choices, SETTINGS, 100), False)
        # Without what comes behind it, nothing is told by the times.
        self.assertEqual(groups(self.address, CONTENTS, choices, SETTINGS[:6] + ((),), "times", 100), ((0, 1, 2, 3, 4, 5, 6),))
        self.assertEqual(groups(self.address, CONTENTS, choices, SETTINGS[:6] + ((),), "visits", 100), ((0, 1, 2, 3, 4, 5, 6),))

    def test_by_times(self):
        choices = tuple(with_secret(word) for word in (1, 2, 3, 4, 7, 0, 8))
        settings = SETTINGS[:6] + ((),)
        # The last out waits for the quotient; 0 and 1 cost the same, but give other words.
        self.assertEqual(groups(self.cost, CONTENTS, choices, settings, "times", 100), ((0,), (1,), (2,), (3,), (4,), (5,), (6,)))
        code = (self.cost[0], self.cost[1][:4] + (("stop", 3),))
        self.assertEqual(groups(code, CONTENTS, choices, settings, "times", 100), ((0, 5), (1, 2), (3, 4), (6,)))
        self.assertEqual(groups(code, CONTENTS, choices, settings, "all", 100), ((0, 5), (1, 2), (3, 4), (6,)))
        self.assertEqual(groups(code, CONTENTS, choices, settings, "lines", 100), ((0, 1, 2, 3, 4, 5, 6),))
        self.assertIs(learns_nothing(code, CONTENTS, choices, settings, 100), False)
        self.assertIs(learns_nothing(code, CONTENTS, choices[1:3], settings, 100), True)

    def test_by_visits(self):
        choices = tuple(with_secret(word) for word in (0, 1, 2, 3, 4, 4))
        # The cache holds one line, and the drop finds whether it is the line 2.
        settings = ((1, 1, 1, "lru"),) + SETTINGS[1:6] + (((2, "drop", 2), (3, "touch", 4)),)
        self.assertEqual(groups(self.address, CONTENTS, choices, settings, "visits", 100), ((0, 1, 3, 4, 5), (2,)))

    def test_by_branches(self):
        choices = tuple(with_secret(word) for word in (0, 5, 0, 7))
        self.assertEqual(groups(self.branch, CONTENTS, choices, SETTINGS, "all", 100), ((0, 2), (1, 3)))
        self.assertEqual(groups(self.branch, CONTENTS, choices, SETTINGS, "visits", 1), ((0, 1, 2, 3),))

    def test_limits(self):
        choices = tuple(with_secret(word) for word in (0, 1, 2, 3))
        for steps, wanted in ((0, ((0, 1, 2, 3),)), (1, ((0, 1, 2, 3),)), (2, ((0,), (1,), (2,), (3,)))):
            self.assertEqual(groups(self.address, CONTENTS, choices, SETTINGS, "all", steps), wanted)
            self.assertIs(learns_nothing(self.address, CONTENTS, choices, SETTINGS, steps), len(wanted) == 1)

    def test_public_regions_of_choices_do_not_count(self):
        choices = (((0, 0, 0, 0), (5, 6, 7, 8), (1,), (2,)), ((9, 9, 9, 9), (1, 1, 1, 1), (0,), (2,)))
        code = (REGIONS, (("load", 1, 0, 8, 0), ("out", 1), ("load", 1, 0, 0, 0), ("out", 1), ("stop", 1)))
        self.assertEqual(groups(code, CONTENTS, choices, SETTINGS, "all", 100), ((0, 1),))
        self.assertEqual(run_machine(code, mixed(code, CONTENTS, choices[0]), SETTINGS, 100)[0], (9, 1))

    def test_few_choices(self):
        for what in VIEWS:
            self.assertEqual(groups(self.address, CONTENTS, (), SETTINGS, what, 100), ())
            self.assertEqual(groups(self.address, CONTENTS, (CONTENTS,), SETTINGS, what, 100), ((0,),))
        self.assertIs(learns_nothing(self.address, CONTENTS, (), SETTINGS, 100), True)
        self.assertIs(learns_nothing(self.address, CONTENTS, (CONTENTS,), SETTINGS, 100), True)

    def test_the_result_is_not_seen(self):
        code = (REGIONS, (("load", 1, 0, 9, 0), ("store", 0, 4, 3, 1), ("stop", 1)))
        choices = tuple(with_secret(word) for word in (0, 1, 2 ** 32 - 1))
        self.assertIs(learns_nothing(code, CONTENTS, choices, SETTINGS, 100), True)

    def test_drawn(self):
        for number in range(300):
            code = drawn_code(number, count=5)
            contents = drawn_contents(code, number)
            choices = tuple(drawn_contents(code, number * 9 + k % 4) for k in range(6))
            settings = drawn_settings(number)
            for what in VIEWS:
                views = [view(run_machine(code, mixed(code, contents, others), settings, 30)[3], what) for others in choices]
                wanted = []
                for k in range(6):
                    if views[k] not in views[:k]:
                        wanted.append(tuple(j for j in range(6) if views[j] == views[k]))
                self.assertEqual(groups(code, contents, choices, settings, what, 30), tuple(wanted))
            self.assertIs(learns_nothing(code, contents, choices, settings, 30), len(groups(code, contents, choices, settings, "all", 30)) == 1)

    def test_a_secret_that_only_a_wrong_way_shows(self):
        # The bound of an index is guessed to hold; the judge refuses this, as the address is not public on that way.
        regions = ((0, 4, "public"), (4, 4, "secret"), (8, 64, "public"))
        rows = (("const", 1, 5), ("const", 2, 4), ("op", "<", 3, 1, 2), ("branch", 3, 5), ("stop", 0), ("load", 4, 1, 0, 7), ("load", 5, 4, 8, 63), ("stop", 0))
        code = (regions, rows)
        contents = ((1, 2, 3, 4), (0, 0, 0, 0), (0,) * 64)
        choices = tuple((contents[0], (0, word, 0, 0), contents[2]) for word in (3, 17, 40))
        settings = ((64, 1, 1, "lru"), FETCH, ("taken",), 8, (0, 20), (), ())
        self.assertEqual(groups(code, contents, choices, settings, "all", 100), ((0,), (1,), (2,)))
        self.assertIs(learns_nothing(code, contents, choices, settings[:3] + (0,) + settings[4:], 100), True)
        self.assertIs(taken(code), False)


class TestCodeThatIsTaken(unittest.TestCase):
    def learned(self, code, number, runs):
        """The code is taken, so that nothing is learned of several choices, by each setting."""
        contents = drawn_contents(code, number)
        choices = tuple(other_secret_contents(code, contents, number * 31 + k) for k in range(4))
        for k in range(runs):
            settings = drawn_settings(number * 17 + k)
            self.assertIs(learns_nothing(code, contents, choices, settings, 150), True)
            self.assertEqual(groups(code, contents, choices, settings, "all", 150), ((0, 1, 2, 3),))

    def test_code_that_is_like_code_of_programs(self):
        for number in range(700):
            code = drawn_taken_code(number)
            self.assertIs(taken(code), True)
            self.learned(code, number, 2)

    def test_any_code(self):
        many = 0
        for number in range(4000):
            code = drawn_code(number, most_rows=9)
            if taken(code) and any(label == "secret" for _, _, label in code[0]):
                many += 1
                self.learned(code, number, 2)
        self.assertGreater(many, 300)

    def test_code_with_one_row_changed(self):
        """What the judge refuses may show secrets, and often does; what it takes still does not."""
        found = {}
        for number in range(1500):
            chance = random.Random(number)
            regions, rows = drawn_taken_code(number)
            # Which part of which row is a register that has to be public.
            parts = {"branch": 1, "out": 1, "load": 2, "store": 1}
            r = chance.choice([r for r, row in enumerate(rows) if row[0] in parts] or [0])
            part = parts.get(rows[r][0], 1)
            row = rows[r][:part] + (chance.randrange(5, 10),) + rows[r][part + 1:] if rows[r][0] in parts else rows[r]
            code = (regions, rows[:r] + (row,) + rows[r + 1:])
            contents = drawn_contents(code, number)
            choices = tuple(other_secret_contents(code, contents, number * 31 + k) for k in range(4))
            nothing = learns_nothing(code, contents, choices, drawn_settings(number), 100)
            key = (taken(code), nothing)
            found[key] = found.get(key, 0) + 1
        self.assertNotIn((True, False), found)
        self.assertGreater(found[(False, False)], 50)
        self.assertGreater(found[(True, True)], 50)


if __name__ == "__main__":
    unittest.main()
