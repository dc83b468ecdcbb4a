"""Promises 83 and 89: what is owed step by step, and never more than the sum of what is done."""

import random
import unittest

from tests.samples import (
    ONE, TWO, shuffled, some_exchange, some_length, some_lengths, some_pair, some_swap,
)
from turnsleft.errors import OtherLine
from turnsleft.moves import Turn, arranged, commutator, fold, still
from turnsleft.owing import owed_after
from turnsleft.placing import resolved
from turnsleft.ratios import Ratio, multiplied
from turnsleft.relations import is_loose
from turnsleft.wedges import Wedge, nothing

FIFTH = fold(TWO, Ratio(3, 2))
THIRD = fold(TWO, Ratio(5, 4))


class StepTest(unittest.TestCase):
    def test_numbers(self):
        self.assertEqual(list(owed_after(FIFTH, ~FIFTH, THIRD, FIFTH)), [1, 0, 1, 1])
        self.assertEqual(list(owed_after()), [])
        self.assertEqual(list(owed_after(still(TWO))), [0])
        rng = random.Random(1)
        for _ in range(15):
            lengths = some_lengths(rng, rng.randint(1, 6))
            deeds = [arranged([lengths[at] for at in shuffled(rng, len(lengths))], shuffled(rng, len(lengths))) for _ in range(5)]
            whole = still(deeds[0].top)
            numbers = []
            for deed in deeds:
                whole = whole >> deed
                numbers.append(whole.owed)
            self.assertEqual(list(owed_after(*deeds)), numbers)

    def test_swaps(self):
        rng = random.Random(2)
        for _ in range(15):
            exchange = some_exchange(rng, 6) if rng.random() < 0.5 else FIFTH
            if exchange.top.below(TWO):
                continue
            swap = some_swap(rng, TWO).on(exchange.top)
            first, second, third = owed_after(exchange, swap, ~exchange)
            self.assertEqual((first, second, third), (exchange.owed, exchange.owed, 0))

    def test_other_lines(self):
        # ahead of the first number, and not ahead of the first item that is requested
        for deeds in ([FIFTH, still(Ratio(3))], [still(Ratio(3)), FIFTH, FIFTH], [FIFTH, FIFTH, FIFTH, fold(Ratio(3), TWO)]):
            numbers = owed_after(*deeds)
            self.assertRaises(OtherLine, next, numbers)
        numbers = owed_after(FIFTH, FIFTH)
        self.assertEqual([next(numbers), next(numbers)], [1, 1])
        self.assertRaises(StopIteration, next, numbers)


class NeverMoreTest(unittest.TestCase):
    def test_one_behind_another(self):
        rng = random.Random(3)
        for _ in range(30):
            e, f = some_pair(rng, rng.randint(2, 7))
            self.assertLessEqual((e >> f).owed, e.owed + f.owed)
            self.assertLessEqual((e.wedge + f.wedge).owed, e.wedge.owed + f.wedge.owed)
            self.assertEqual((~e).owed, e.owed)
            self.assertEqual((f >> e >> ~f).owed, e.owed)
            self.assertEqual((f >> e >> ~f).wedge, e.wedge)
            self.assertEqual(commutator(e, f).owed, 0)
            for k in (-60, -2, 1, 3, 7):
                if len(e) < 5:
                    self.assertEqual(e.times(k).owed, e.owed)
            self.assertEqual(e.times(0).owed, 0)

    def test_wedges(self):
        rng = random.Random(4)
        for _ in range(40):
            one, other = [Wedge([rng.choice([0, 0, 0, 1, -2]) for _ in range(15)]) for _ in range(2)]
            self.assertLessEqual((one + other).owed, one.owed + other.owed)
            self.assertEqual((-one).owed, one.owed)
            self.assertEqual((one * 7).owed, one.owed)
            self.assertEqual((one + nothing()).owed, one.owed)

    def test_rows(self):
        rng = random.Random(5)
        for many in range(1, 9):
            for _ in range(10):
                exchange = some_exchange(rng, many)
                self.assertLessEqual(exchange.owed, len(exchange) // 2)

    def test_loose_lengths(self):
        rng = random.Random(6)
        for many in range(1, 7):
            for _ in range(5):
                lengths = [some_length(rng) for _ in range(many)]
                while not is_loose(lengths):
                    lengths = [some_length(rng) for _ in range(many)]
                turned = arranged(lengths, list(range(many))[::-1])
                self.assertEqual(turned.owed, many // 2)
                self.assertEqual(len(resolved(turned)[1]), many // 2)
        primes = [Ratio(prime) for prime in (2, 3, 5, 7, 11, 13)]
        self.assertEqual(arranged(primes, [5, 4, 3, 2, 1, 0]).owed, 3)
        self.assertEqual(multiplied(primes).text(), "30030")
        self.assertEqual(Turn(ONE, TWO, Ratio(3)).on(Ratio(6)).owed, 1)


if __name__ == "__main__":
    unittest.main()
