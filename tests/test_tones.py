"""Promise 5: tones led, compared, and within stretches."""

import random
import unittest
from fractions import Fraction

from tests.samples import ONE, fraction, some_length, some_ratio, tone
from turnsleft.ratios import Ratio
from turnsleft.tones import compared, led, within


class TonesTest(unittest.TestCase):
    def test_led(self):
        self.assertEqual(led((5, 3), Ratio(3, 4)), (5, 4))
        self.assertEqual(led((17, 3), Ratio(9, 2)), (51, 2))
        self.assertEqual(led((1, 1), ONE), (1, 1))
        self.assertIsInstance(led((3, 2), Ratio(2, 3)), tuple)

    def test_compared(self):
        self.assertEqual(compared((3, 2), Ratio(3, 2)), 0)
        self.assertEqual(compared((17, 12), Ratio(3, 2)), -1)
        self.assertEqual(compared((19, 12), Ratio(3, 2)), 1)
        self.assertNotIsInstance(compared((3, 2), Ratio(3, 2)), bool)

    def test_within(self):
        self.assertIs(within((3, 2), Ratio(3, 2), Ratio(4, 3)), True)
        self.assertIs(within((2, 1), Ratio(3, 2), Ratio(4, 3)), False)
        self.assertIs(within((1999, 1000), Ratio(3, 2), Ratio(4, 3)), True)
        self.assertIs(within((1499, 1000), Ratio(3, 2), Ratio(4, 3)), False)
        self.assertIs(within((1, 5), Ratio(1, 9), Ratio(2)), True)

    def test_by_fractions(self):
        rng = random.Random(1)
        for _ in range(100):
            value = Fraction(rng.randint(1, 99), rng.randint(1, 99))
            ratio = some_ratio(rng, 1)
            length = some_length(rng, 1)
            self.assertEqual(led(tone(value), ratio), tone(value * fraction(ratio)))
            sign = (value > fraction(ratio)) - (value < fraction(ratio))
            self.assertEqual(compared(tone=tone(value), ratio=ratio), sign)
            inside = fraction(ratio) <= value < fraction(ratio) * fraction(length)
            self.assertIs(within(tone(value), start=ratio, length=length), inside)


if __name__ == "__main__":
    unittest.main()
