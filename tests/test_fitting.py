"""Promise 46: readings fitted to samples."""

import random
import unittest

from tests.samples import TWO, any_values
from tests.test_readings import some_reading
from turnsleft.errors import BadNumber, Unfit
from turnsleft.fitting import fitted
from turnsleft.moves import fold
from turnsleft.ratios import Ratio
from turnsleft.readings import Reading
from turnsleft.wedges import Wedge, nothing, wedge_of


def some_samples(rng, modulus, many):
    """Wedges with the values of some reading, some of them sums of the others."""
    reading = some_reading(rng, modulus)
    wedges = []
    for _ in range(many):
        numbers = [rng.randint(-3, 3) * rng.choice([1, 1, modulus]) for _ in range(15)]
        wedges.append(Wedge(numbers, [rng.randint(0, 1) for _ in range(6)]))
    for _ in range(many):
        one, other = rng.choice(wedges), rng.choice(wedges)
        wedges.append(one * rng.randint(-3, 3) + other * rng.randint(-3, 3))
    return [(wedge, reading(wedge) + modulus * rng.randint(-2, 2)) for wedge in wedges]


class FittedTest(unittest.TestCase):
    def check(self, samples, modulus):
        """Whether a reading fits; what is found has to show it."""
        try:
            reading = fitted(samples, modulus=modulus)
        except Unfit as error:
            counts = error.counts
            self.assertIsInstance(counts, tuple)
            self.assertEqual(len(counts), len(samples))
            total = nothing()
            for count, (wedge, _) in zip(counts, samples):
                total = total + wedge * count
            self.assertTrue(all(number % modulus == 0 for number in total.pairs()))
            if modulus % 2 == 0:
                self.assertEqual(total.bits(), (0,) * 6)
            value = sum(count * value for count, (_, value) in zip(counts, samples))
            self.assertNotEqual(value % modulus, 0)
            return False
        self.assertIsInstance(reading, Reading)
        self.assertEqual(reading.modulus, modulus)
        for wedge, value in samples:
            self.assertEqual((reading(wedge) - value) % modulus, 0)
        self.assertEqual(fitted(list(samples), modulus=modulus), reading)
        return True

    def test_fit(self):
        rng = random.Random(1)
        for modulus in (2, 3, 4, 5, 6, 7, 8, 12, 60, 97, 10**6, 10**50):
            for many in (1, 2, 5, 12):
                self.assertTrue(self.check(some_samples(rng, modulus, many), modulus))

    def test_unfit(self):
        rng = random.Random(2)
        seen = set()
        for modulus in (2, 3, 4, 6, 9, 10, 60):
            for many in (1, 2, 5, 9):
                samples = some_samples(rng, modulus, many)
                at = rng.randrange(len(samples))
                wedge, value = samples[at]
                samples[at] = (wedge, value + rng.randint(1, modulus - 1))
                seen.add(self.check(samples, modulus))
                # one wedge with two values
                self.assertFalse(self.check(samples + [(wedge, value)], modulus))
        self.assertIn(False, seen)

    def test_no_samples(self):
        for modulus in (2, 3, 10**9):
            self.assertTrue(self.check([], modulus))
            self.assertTrue(self.check([(nothing(), modulus)], modulus))
            self.assertFalse(self.check([(nothing(), 1)], modulus))

    def test_bits(self):
        odd = Wedge([0] * 15, [0, 1, 0, 0, 0, 0])
        self.assertTrue(self.check([(odd, 3)], 6))
        self.assertFalse(self.check([(odd, 1)], 6))
        self.assertTrue(self.check([(odd, 0)], 5))
        self.assertFalse(self.check([(odd, 1)], 5))
        both = [(odd, 1), (odd + Wedge([0] * 15, [1, 0, 0, 0, 0, 0]), 1), (Wedge([0] * 15, [1] + [0] * 5), 1)]
        self.assertFalse(self.check(both, 2))
        self.assertTrue(self.check([(fold(TWO, Ratio(3, 2)).wedge, 1), (odd, 1)], 2))
        self.assertFalse(self.check([(wedge_of(Ratio(4), Ratio(3)), 1)], 2))
        self.assertTrue(self.check([(wedge_of(Ratio(4), Ratio(3)), 2)], 4))

    def test_tuples(self):
        samples = ((wedge_of(TWO, Ratio(3)), 5), (wedge_of(TWO, Ratio(5)), -1))
        self.assertTrue(self.check(samples, 12))
        self.assertEqual(fitted(samples=list(samples), modulus=12), fitted(samples, modulus=12))

    def test_many(self):
        rng = random.Random(3)
        self.assertTrue(self.check(some_samples(rng, 12, 200), 12))

    def test_bad_numbers(self):
        for value in [1, 0, -1, -2, True, False] + any_values():
            with self.assertRaises(BadNumber) as caught:
                fitted([(nothing(), 1)], modulus=value)
            self.assertIs(caught.exception.value, value)


if __name__ == "__main__":
    unittest.main()
