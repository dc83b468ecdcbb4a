"""Promises 34 to 36: normal sums, divisors and contents, anchors."""

import random
import unittest
from itertools import combinations
from math import gcd

from tests.samples import ONE, some_exchange, some_length, some_ratio
from turnsleft.matrices import determinant
from turnsleft.moves import arranged
from turnsleft.normal import anchor_of, divisors, normal_sum
from turnsleft.ratios import PRIMES, Ratio, is_length
from turnsleft.relations import is_base_part
from turnsleft.wedges import Wedge, nothing, pfaffian, square_at, wedge_of


def some_wedge(rng, most):
    """A wedge with numbers up to most; the rank is 6 nearly always."""
    return Wedge([rng.randint(-most, most) for _ in range(15)], [rng.randint(0, 1) for _ in range(6)])


def of_rank(rng, turns, most=2):
    """A sum of so many wedges of two ratios."""
    wedge = nothing()
    for _ in range(turns):
        wedge = wedge + wedge_of(some_ratio(rng, most), some_ratio(rng, most))
    return wedge


def some_wedges(rng):
    """Wedges of all ranks."""
    wedges = [nothing(), Wedge([0] * 15, [1, 0, 0, 1, 0, 0]), wedge_of(Ratio(2), Ratio(3)), wedge_of(Ratio(7), Ratio(6))]
    for at in range(15):
        wedges.append(Wedge([(-1) ** at * (at + 1) if at == k else 0 for k in range(15)]))
    for most in (1, 2, 9, 60, 120):
        wedges.extend(some_wedge(rng, most) for _ in range(4))
    for turns in (1, 2, 3):
        wedges.extend(of_rank(rng, turns) for _ in range(5))
    wedges.extend(some_exchange(rng, 5).wedge for _ in range(5))
    # numbers without a common divisor, of which each two have one
    for numbers in [(6, 10, 15), (6, 10, 0), (0, 15, 10), (2, 2, 3), (30, 42, 70), (-6, 10, -15), (105, 70, 42)]:
        wedges.append(Wedge([numbers[0]] + [0] * 8 + [numbers[1]] + [0] * 4 + [numbers[2]]))
    wedges.append(Wedge([120] * 15))
    wedges.append(Wedge([-120, 120] * 7 + [119]))
    return wedges


def shared_pfaffian(wedge, many):
    """The greatest common divisor of the Pfaffians at so many primes."""
    shared = 0
    for primes in combinations(PRIMES, many):
        shared = gcd(shared, pfaffian(wedge, list(primes)))
    return shared


class NormalTest(unittest.TestCase):
    def check(self, wedge):
        items = normal_sum(wedge)
        self.assertIsInstance(items, list)
        self.assertEqual(len(items), wedge.owed)
        total = nothing()
        for item in items:
            self.assertIsInstance(item, tuple)
            number, u, v = item
            self.assertGreaterEqual(number, 1)
            self.assertTrue(is_length(u) and is_length(v))
            total = total + wedge_of(u, v) * number
        self.assertEqual(total.pairs(), wedge.pairs())
        numbers = [number for number, _, _ in items]
        for one, other in zip(numbers, numbers[1:]):
            self.assertEqual(other % one, 0)
        self.assertTrue(is_base_part([ratio for _, u, v in items for ratio in (u, v)]))
        self.assertEqual(divisors(wedge), numbers)
        if numbers:
            self.assertEqual(numbers[0], wedge.content)
        # the products of the first numbers are told by the Pfaffians
        product = 1
        for at, number in enumerate(numbers):
            product *= number
            self.assertEqual(shared_pfaffian(wedge, 2 * at + 2), product)
        self.assertEqual(normal_sum(Wedge(wedge.pairs(), wedge.bits())), items)

    def test_all_ranks(self):
        rng = random.Random(1)
        for wedge in some_wedges(rng):
            self.check(wedge)

    def test_exchanges_with_great_powers(self):
        rng = random.Random(4)
        for most in (5, 15, 40):
            exchange = arranged([some_length(rng, most) for _ in range(6)], [3, 5, 1, 0, 4, 2])
            self.check(exchange.wedge)

    def test_flat(self):
        for wedge in (nothing(), Wedge([0] * 15, [1] * 6), wedge_of(Ratio(9, 8), Ratio(9, 8))):
            self.assertEqual(normal_sum(wedge), [])
            self.assertEqual(divisors(wedge), [])
            self.assertEqual(anchor_of(wedge), ())
            self.assertEqual(wedge.content, 0)

    def test_multiples(self):
        rng = random.Random(2)
        for wedge in [some_wedge(rng, 120) for _ in range(3)] + [of_rank(rng, 1), of_rank(rng, 2), of_rank(rng, 3)]:
            numbers = divisors(wedge)
            for times in (2, 60, 999_983, 1_000_000, -7):
                self.assertEqual(divisors(wedge * times), [abs(times) * number for number in numbers])
                self.assertEqual((wedge * times).content, abs(times) * wedge.content)
            self.check(wedge * 1_000_000)
            self.assertEqual(divisors(-wedge), numbers)
            self.assertEqual(divisors(wedge=wedge * 0), [])

    def test_lists_are_new(self):
        wedge = wedge_of(Ratio(2), Ratio(3))
        normal_sum(wedge).append(1)
        divisors(wedge).append(1)
        self.assertEqual((len(normal_sum(wedge=wedge)), divisors(wedge)), (1, [1]))


class AnchorTest(unittest.TestCase):
    def test_least(self):
        rng = random.Random(3)
        for wedge in some_wedges(rng) + [of_rank(rng, 2, 1) for _ in range(20)]:
            anchor = anchor_of(wedge)
            self.assertIsInstance(anchor, tuple)
            self.assertEqual(len(anchor), 2 * wedge.owed)
            self.assertNotEqual(determinant(square_at(wedge, list(anchor))), 0)
            for primes in combinations(PRIMES, len(anchor)):
                if primes == anchor:
                    break
                self.assertEqual(pfaffian(wedge, list(primes)), 0)
            self.assertEqual(anchor_of(wedge=wedge * 5), anchor)

    def test_known(self):
        self.assertEqual(anchor_of(wedge_of(Ratio(3, 2), Ratio(2))), (2, 3))
        self.assertEqual(anchor_of(wedge_of(Ratio(13), Ratio(7))), (7, 13))
        self.assertEqual(anchor_of(wedge_of(Ratio(3), Ratio(5)) + wedge_of(Ratio(7), Ratio(13))), (3, 5, 7, 13))
        self.assertEqual(anchor_of(wedge_of(ONE, Ratio(7))), ())


if __name__ == "__main__":
    unittest.main()
