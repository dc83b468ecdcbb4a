"""Promise 56: roots of exchanges, and the numbers of which there are roots."""

import random
import unittest
from math import gcd

from tests.samples import INTERVALS, ONE, TWO, any_values, is_exchange_of, some_exchange, some_swap
from turnsleft.courses import Course
from turnsleft.errors import BadNumber, NoRoot
from turnsleft.moves import Turn, arranged, commutator, fold, still
from turnsleft.nearby import exchange_with
from turnsleft.ratios import PRIMES, Ratio
from turnsleft.roots import root, root_numbers
from turnsleft.wedges import Wedge

FIFTH = fold(TWO, Ratio(3, 2))


def first_undivided(exchange, k):
    """The least pair of primes whose number k does not divide; None without one."""
    for p in PRIMES:
        for q in PRIMES:
            if p < q and exchange.wedge.at(p, q) % k != 0:
                return p, q
    return None


class RootTest(unittest.TestCase):
    def check(self, exchange, k):
        found, course = root(exchange, k)
        self.assertTrue(is_exchange_of(found, exchange.top))
        self.assertIsInstance(course, Course)
        self.assertEqual(course.top, exchange.top)
        self.assertTrue(course.keeps)
        self.assertEqual(found.times(k) >> course.made(), exchange)
        self.assertEqual(tuple(k * number for number in found.wedge.pairs()), exchange.wedge.pairs())

    def check_none(self, exchange, k):
        with self.assertRaises(NoRoot) as caught:
            root(exchange, k)
        self.assertEqual((caught.exception.first, caught.exception.second), first_undivided(exchange, k))

    def test_of_powers(self):
        rng = random.Random(1)
        for k in (1, 2, 3, 5, 12):
            self.check(FIFTH.times(k), k)
            self.check(fold(Ratio(3), Ratio(7, 5)).times(-k), k)
        for _ in range(12):
            k = rng.randint(1, 4)
            exchange = some_exchange(rng, rng.randint(2, 5)).times(k)
            self.check(exchange, k)
            if not exchange.top.below(TWO):
                self.check(exchange >> some_swap(rng, TWO).on(exchange.top), k)

    def test_every_divisor_and_no_other_number(self):
        rng = random.Random(2)
        several = [FIFTH.times(6), fold(TWO, Ratio(9, 8)), exchange_with(TWO, Wedge([0] * 14 + [12]))]
        several.append(exchange_with(Ratio(20), Wedge([6, 0, 0, 0, 0, 0, 0, 0, 0, -9, 0, 0, 0, 0, 0], [1, 0, 0, 1, 0, 0])))
        several.extend(some_exchange(rng, 4) for _ in range(4))
        for exchange in several:
            numbers = root_numbers(exchange)
            if exchange.fair:
                continue
            content = 0
            for number in exchange.wedge.pairs():
                content = gcd(content, number)
            self.assertEqual(numbers, [k for k in range(1, content + 1) if content % k == 0])
            for k in range(1, content + 3):
                if k in numbers:
                    self.check(exchange, k)
                else:
                    self.check_none(exchange, k)

    def test_of_lengths(self):
        # a tenth of the number of the first one is not whole
        one = Turn(ONE, Ratio(3, 2).power(4), Ratio(7, 5)).on(Ratio(8))
        self.check(one, 4)
        self.check(one, 2)
        self.check_none(one, 3)
        self.check(Turn(ONE, Ratio(2**40), Ratio(3**40)).on(Ratio(6**40)), 40)

    def test_of_fair_ones(self):
        rng = random.Random(3)
        fair = [still(TWO), some_swap(rng, TWO).on(TWO), fold(TWO, Ratio(4))]
        fair.append(commutator(FIFTH, fold(TWO, Ratio(5, 4))))
        fair.append(arranged([Ratio(9, 8)] * 4, [2, 3, 1, 0]))
        for exchange in fair:
            self.assertEqual(root_numbers(exchange), [])
            for k in (1, 2, 7, 60, 10**199):
                self.check(exchange, k)

    def test_numbers(self):
        self.assertEqual(root_numbers(FIFTH), [1])
        self.assertEqual(root_numbers(fold(TWO, Ratio(9, 8))), [1, 2])
        self.assertEqual(root_numbers(FIFTH.times(-60)), [1, 2, 3, 4, 5, 6, 10, 12, 15, 20, 30, 60])
        self.assertEqual(root_numbers(FIFTH.times(49)), [1, 7, 49])
        self.assertEqual(root_numbers(FIFTH.times(58)), [1, 2, 29, 58])
        # many divisors: 2 ** 6 * 3 ** 2 * 5 * 7 of them are divided out one by one
        found = root_numbers(FIFTH.times(60).times(56).times(6))
        self.assertEqual(found, [k for k in range(1, 20161) if 20160 % k == 0])
        found.append(None)
        self.assertNotIn(None, root_numbers(FIFTH.times(60).times(56).times(6)))

    def test_bad_numbers(self):
        for exchange in (FIFTH, still(TWO)):
            for value in [*any_values(), -5, -(10**199)]:
                if value is not True and value == 1 and isinstance(value, int):
                    continue
                with self.assertRaises(BadNumber) as caught:
                    root(exchange, value)
                self.assertIs(caught.exception.value, value)
        with self.assertRaises(BadNumber):
            root(FIFTH, True)

    def test_least_pair(self):
        wedge = Wedge([0, 4, 6, 0, 0, 9, 0, 0, 0, 0, 0, 0, 0, 0, 0])
        exchange = exchange_with(Ratio(3), wedge)
        for k, pair in ((2, (3, 5)), (4, (2, 7)), (3, (2, 5)), (5, (2, 5)), (10**199, (2, 5))):
            with self.assertRaises(NoRoot) as caught:
                root(exchange, k)
            self.assertEqual((caught.exception.first, caught.exception.second), pair)

    def test_equal_calls(self):
        exchange = arranged([INTERVALS[0], INTERVALS[1], INTERVALS[2]], [2, 1, 0]).times(3)
        self.assertEqual(root(exchange, 3), root(k=3, exchange=exchange))
        self.assertEqual(root_numbers(exchange=exchange), root_numbers(exchange))


if __name__ == "__main__":
    unittest.main()
