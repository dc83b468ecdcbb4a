"""Promise 54: the fold for an exchange."""

import random
import unittest

from tests.samples import ONE, TWO, some_exchange, some_ratio, some_swap
from turnsleft.errors import Unmade
from turnsleft.folds import fold_for
from turnsleft.moves import Turn, fold, still
from turnsleft.nearby import exchange_with
from turnsleft.ratios import PRIMES, Ratio, is_ratio
from turnsleft.readings import Reading
from turnsleft.relations import root_of
from turnsleft.sorting import same_sort
from turnsleft.wedges import Wedge, wedge_of

# a prime, powers, a product of powers, and ratios
TOPS = [TWO, Ratio(3), Ratio(4), Ratio(64), Ratio(36), Ratio(9, 4), Ratio(225, 64), Ratio(12), Ratio(81, 80), Ratio(13, 7)]


class FoldTest(unittest.TestCase):
    def check_found(self, exchange, found):
        root, _ = root_of(exchange.top)
        self.assertTrue(is_ratio(found))
        self.assertFalse(found.below(ONE))
        self.assertTrue(found.below(root))
        self.assertEqual(wedge_of(exchange.top, found).pairs(), exchange.wedge.pairs())
        self.assertTrue(same_sort(fold(exchange.top, found), exchange))

    def check_unmade(self, exchange, reading):
        self.assertIsInstance(reading, Reading)
        self.assertEqual(reading.bits(), (0,) * 6)
        self.assertGreaterEqual(reading.modulus, 2)
        self.assertNotEqual(reading.value_of(exchange), 0)
        for prime in PRIMES:
            self.assertEqual(reading(wedge_of(exchange.top, Ratio(prime))), 0)
            self.assertEqual(reading.value_of(fold(exchange.top, Ratio(prime))), 0)

    def test_folds(self):
        rng = random.Random(1)
        for top in TOPS:
            for _ in range(5):
                by = some_ratio(rng, 2)
                exchange = fold(top, by)
                found = fold_for(exchange)
                self.check_found(exchange, found)
                self.assertEqual(fold_for(exchange=exchange), found)
                # the only one: the ratios differ by a power of the root
                root, _ = root_of(top)
                left = by // found
                self.assertTrue(wedge_of(root, left).flat)
                if not top.below(TWO):
                    self.assertEqual(fold_for(some_swap(rng, TWO).on(top) >> exchange), found)
            self.assertEqual(fold_for(still(top)), ONE)
            self.assertEqual(fold_for(fold(top, top)), ONE)

    def test_example(self):
        tone = fold(TWO, Ratio(9, 8))
        self.assertEqual(repr(fold_for(tone.times(3))), "Ratio(729/512)")

    def test_powers_of_the_root(self):
        # the root of 64 is 2: the fold by 2 has a flat wedge, and the only one for it is 1
        self.assertEqual(fold_for(fold(Ratio(64), TWO)), ONE)
        self.assertEqual(fold_for(fold(Ratio(64), Ratio(6))), Ratio(3, 2))
        self.assertEqual(fold_for(fold(Ratio(9, 4), Ratio(5))), Ratio(40, 27))

    def test_unmade(self):
        rng = random.Random(2)
        seen = set()
        for top in TOPS:
            wedges = [Wedge([rng.randint(-2, 2) for _ in range(15)]) for _ in range(3)]
            wedges += [wedge_of(root_of(top)[0], Ratio(prime)) for prime in (3, 5)]
            for wedge in wedges:
                exchange = exchange_with(top, wedge)
                try:
                    found = fold_for(exchange)
                except Unmade as error:
                    seen.add(False)
                    self.check_unmade(exchange, error.reading)
                    continue
                seen.add(True)
                self.check_found(exchange, found)
        self.assertEqual(seen, {True, False})
        # a fold has an even number on a line whose top is a square
        turn = Turn(ONE, TWO, Ratio(3)).on(Ratio(36))
        self.assertRaises(Unmade, fold_for, turn)

    def test_rank_of_folds(self):
        rng = random.Random(3)
        for _ in range(10):
            exchange = some_exchange(rng, 5)
            if exchange.owed > 1:
                with self.assertRaises(Unmade) as caught:
                    fold_for(exchange)
                self.check_unmade(exchange, caught.exception.reading)


if __name__ == "__main__":
    unittest.main()
