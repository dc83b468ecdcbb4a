"""Promise 43: ratios near 1 with any bits, and exchanges with any wedge."""

import random
import unittest
from itertools import product

from tests.samples import INTERVALS, ONE, TWO, any_values
from tests.test_placing import NARROW, window_errors
from turnsleft.errors import BadTop, BadWindow
from turnsleft.exchanges import Exchange
from turnsleft.nearby import exchange_with, ratio_near
from turnsleft.ratios import Ratio, is_length
from turnsleft.wedges import Wedge, nothing, wedge_of


class NearTest(unittest.TestCase):
    def test_all_bits(self):
        for bits in product((0, 1), repeat=6):
            for most in (NARROW, Ratio(81, 80), TWO, Ratio(2**40)):
                ratio = ratio_near(bits, most)
                self.assertTrue(is_length(ratio))
                self.assertFalse(most.below(ratio))
                self.assertEqual(ratio.bits(), bits)
                self.assertEqual(ratio_near(bits=bits, most=most), ratio)

    def test_many_lengths(self):
        rng = random.Random(1)
        for most in INTERVALS + [Ratio(4), Ratio(9), Ratio(9, 4), Ratio(3), Ratio(30030)]:
            bits = tuple(rng.randint(0, 1) for _ in range(6))
            ratio = ratio_near(bits, most)
            self.assertTrue(is_length(ratio) and not most.below(ratio) and ratio.bits() == bits)


class WithTest(unittest.TestCase):
    def check(self, top, wedge, low=None, high=None):
        exchange = exchange_with(top, wedge, low=low, high=high)
        self.assertIsInstance(exchange, Exchange)
        self.assertEqual(exchange.top, top)
        self.assertEqual(exchange.wedge, wedge)
        for start, length, factor in exchange.rows():
            if factor != ONE:
                self.assertFalse(start.below(low or ONE))
                self.assertFalse((high or top).below(start * length))
        self.assertEqual(exchange_with(top, wedge, low=low, high=high), exchange)
        return exchange

    def test_any_wedge(self):
        rng = random.Random(2)
        for most in (0, 1, 3, 60):
            for _ in range(4):
                wedge = Wedge([rng.randint(-most, most) for _ in range(15)], [rng.randint(0, 1) for _ in range(6)])
                exchange = self.check(TWO, wedge)
                self.assertEqual(exchange_with(top=TWO, wedge=wedge, low=ONE, high=TWO), exchange)
                self.assertEqual(exchange_with(TWO, wedge, high=TWO), exchange)
                self.check(Ratio(7, 3), wedge, Ratio(3, 2), Ratio(7, 3))
                self.check(Ratio(9), wedge, Ratio(8))

    def test_narrow(self):
        for wedge in (nothing(), wedge_of(TWO, Ratio(3)), Wedge([0] * 15, [1] * 6), wedge_of(Ratio(6), Ratio(35, 11))):
            self.check(TWO, wedge, Ratio(5, 3), Ratio(5, 3) * NARROW)
            self.check(TWO, wedge, TWO // NARROW)
            self.check(NARROW, wedge)

    def test_with_content(self):
        for times in (2, -30, 60):
            self.check(TWO, wedge_of(TWO, Ratio(3)) * times)
            self.check(TWO, wedge_of(TWO, Ratio(3)) * times, Ratio(4, 3), Ratio(3, 2))

    def test_wrong(self):
        for value in [value for value in any_values() if not is_length(value)] + [ONE, Ratio(1, 2)]:
            self.assertRaises(BadTop, exchange_with, value, nothing())
            # the top is checked ahead of the window
            self.assertRaises(BadTop, exchange_with, value, nothing(), low=ONE, high=ONE)
        beyond = [(ONE, Ratio(3)), (TWO, None), (Ratio(5, 2), Ratio(3)), (None, ONE)]
        for low, high in window_errors() + beyond:
            with self.assertRaises(BadWindow):
                exchange_with(TWO, nothing(), low=low, high=high)


if __name__ == "__main__":
    unittest.main()
