"""Logarithms from powers, and ratios with great powers compared and put in order by them."""

import random
import unittest
from decimal import Decimal, localcontext
from fractions import Fraction

from tests.samples import ONE, PRIMES, fraction, some_length, some_ratio
from turnsleft.logs import LOGS, SLACK, log_of
from turnsleft.ratios import Ratio, in_order, order_of


class LogsTest(unittest.TestCase):
    def test_primes(self):
        with localcontext() as context:
            context.prec = 80
            for prime, log in zip(PRIMES, LOGS):
                self.assertLess(abs(Decimal(prime).ln() * 10**50 - log), 1)

    def test_sums(self):
        rng = random.Random(1)
        for _ in range(20):
            one, other = some_ratio(rng, 40), some_ratio(rng, 40)
            self.assertEqual(log_of((one * other).powers()), log_of(one.powers()) + log_of(other.powers()))
            self.assertIs(log_of(one.powers()) > 0, ONE.below(one))

    def test_great_ratios(self):
        rng = random.Random(2)
        for _ in range(60):
            one = some_ratio(rng, 900)
            # near to one another, equal, or far apart
            other = rng.choice([one * Ratio(1), one * some_ratio(rng, 1), some_ratio(rng, 900), one // some_length(rng, 30)])
            self.assertIs(one.below(other), Fraction(one.over, one.under) < Fraction(other.over, other.under))
            self.assertIs(other.below(one), fraction(other) < fraction(one))
        near = Ratio.of_powers([-1054, 665, 0, 0, 0, 0])
        self.assertGreater(log_of(near.powers()), SLACK)
        self.assertTrue(ONE.below(near) and not near.below(ONE))

    def test_order(self):
        rng = random.Random(3)
        for most in (1, 5, 300):
            several = [some_ratio(rng, most) for _ in range(30)]
            several.extend(rng.choice(several) for _ in range(10))
            order = order_of(several)
            self.assertEqual(order, sorted(range(40), key=lambda at: (fraction(several[at]), at)))
            values = [fraction(ratio) for ratio in in_order(several)]
            self.assertEqual(values, sorted(set(fraction(ratio) for ratio in several)))


if __name__ == "__main__":
    unittest.main()
