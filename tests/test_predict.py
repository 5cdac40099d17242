"""Predictors (point 8.4)."""

import random
import unittest

from sameclock.predict import Predictor
from cache_reference import LogPredictor

COUNTERS = (1, 2, 4, 8, 16, 32, 64)
EVERY = [("taken",)] + [("two", n) for n in COUNTERS] + [("history", h) for h in range(1, 7)]


class TestPredictors(unittest.TestCase):
    def guesses(self, predictor, wanted):
        """Guesses and learns, for triples (row, guess, taken)."""
        for row, guess, taken in wanted:
            self.assertIs(predictor.guess(row), guess, (row, guess, taken))
            self.assertIsNone(predictor.learn(row, taken))

    def test_taken(self):
        predictor = Predictor(("taken",))
        self.guesses(predictor, [(row, True, False) for row in (0, 1, 5, 99999, 0, 0)])

    def test_first_guesses(self):
        for settings in EVERY:
            for row in (0, 1, 63, 64, 99999, 2 ** 20):
                self.assertIs(Predictor(settings).guess(row), settings == ("taken",))

    def test_counting_up_and_down(self):
        predictor = Predictor(("two", 1))
        self.guesses(predictor, [(7, False, True), (7, True, True), (7, True, True), (7, True, False), (7, True, False), (7, False, False), (7, False, False),
                                 (7, False, True), (7, False, True), (7, True, False), (7, False, True)])

    def test_guessing_learns_nothing(self):
        predictor = Predictor(("two", 2))
        predictor.learn(0, True)
        for _ in range(5):
            self.assertIs(predictor.guess(0), True)
            self.assertIs(predictor.guess(1), False)

    def test_counters_of_rows(self):
        for n in COUNTERS:
            predictor = Predictor(("two", n))
            predictor.learn(n + 1, True)
            for row in range(3 * n):
                self.assertIs(predictor.guess(row), row % n == (n + 1) % n)

    def test_history_of_one(self):
        # The history is what the last branch did; the counters are 1 and 1 at the beginning.
        predictor = Predictor(("history", 1))
        self.guesses(predictor, [(0, False, True), (0, False, True), (0, True, False), (0, True, False), (0, False, True), (1, True, True), (1, True, False)])

    def test_history_of_two(self):
        # A branch that is taken each third time: its history tells when.
        predictor = Predictor(("history", 2))
        seen = []
        for k in range(30):
            seen.append(predictor.guess(4) == (k % 3 == 0))
            predictor.learn(4, k % 3 == 0)
        self.assertEqual(seen[6:], [True] * 24)

    def test_history_and_row(self):
        for h in range(1, 7):
            for row in (0, 1, 2, 5, 2 ** h - 1, 2 ** h, 1000):
                predictor = Predictor(("history", h))
                # Counts up the counters of the histories 0, 1, 3, .. and lastly that of h ones.
                for _ in range(h + 2):
                    predictor.learn(row, True)
                for other in range(2 ** h):
                    # The history has h ones, so that the branch needs a counter that was learned.
                    counter = other ^ (2 ** h - 1)
                    learned = [(row % 2 ** h) ^ (2 ** k - 1) for k in range(h + 1)]
                    self.assertIs(predictor.guess(other), counter in learned, (h, row, other))

    def test_history_forgets(self):
        for h in range(1, 7):
            predictor = Predictor(("history", h))
            predictor.learn(0, True)
            for _ in range(h):
                predictor.learn(0, False)
            # The history is 0 again, and the first counter was learned once upwards.
            self.assertIs(predictor.guess(0), True)

    def test_predictors_are_apart(self):
        first, second = Predictor(("history", 3)), Predictor(("history", 3))
        first.learn(0, True)
        self.assertIs(second.guess(0), False)

    def test_against_the_log(self):
        for number, settings in enumerate(EVERY):
            chance = random.Random(number)
            for rows in ((3,), (0, 1, 5), (2, 7, 66, 130, 99999), tuple(range(70))):
                predictor, log = Predictor(settings), LogPredictor(settings)
                bias = chance.random()
                for k in range(150):
                    row = chance.choice(rows)
                    self.assertIs(predictor.guess(row), log.guess(row))
                    if chance.random() < 0.8:
                        row = chance.choice(rows)
                    taken = chance.random() < bias if k % 3 else k % 2 == 0
                    predictor.learn(row, taken)
                    log.learn(row, taken)
                for row in range(130):
                    self.assertIs(predictor.guess(row), log.guess(row))


if __name__ == "__main__":
    unittest.main()
