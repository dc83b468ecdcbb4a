"""Promises 7 to 10: wedges told and added, wedges of ratios, Pfaffians and squares."""

import random
import unittest
from itertools import combinations
from math import gcd

from tests.samples import ONE, PRIMES, any_values, some_ratio
from turnsleft.errors import BadWedge, NoPrime
from turnsleft.matrices import determinant, rank_of
from turnsleft.ratios import Ratio
from turnsleft.wedges import Wedge, nothing, pfaffian, square_at, wedge_of

PAIRS = list(combinations(PRIMES, 2))
EXAMPLE = wedge_of(Ratio(9, 8), Ratio(10, 9))


def some_wedge(rng, most=3):
    """A wedge with small numbers, often with many zeros."""
    share = rng.random()
    numbers = [rng.randint(-most, most) if rng.random() < share else 0 for _ in PAIRS]
    return Wedge(numbers, [rng.randint(0, 1) for _ in PRIMES])


class ToldTest(unittest.TestCase):
    def test_pairs_and_bits(self):
        numbers = list(range(15))
        bits = [1, 0, 0, 1, 0, 0]
        wedge = Wedge(numbers, bits)
        numbers[0] = 7
        bits[0] = 0
        self.assertEqual(wedge.pairs(), tuple(range(15)))
        self.assertEqual(wedge.bits(), (1, 0, 0, 1, 0, 0))
        self.assertEqual(Wedge(tuple(range(15))).bits(), (0,) * 6)
        self.assertEqual(Wedge(pairs=[0] * 15, bits=(0, 0, 0, 0, 0, 1)).bits(), (0, 0, 0, 0, 0, 1))

    def test_at_and_matrix(self):
        wedge = Wedge(list(range(1, 16)))
        matrix = wedge.matrix()
        for (p, q), number in zip(PAIRS, range(1, 16)):
            self.assertEqual(wedge.at(p, q), number)
            self.assertEqual(wedge.at(q, p), -number)
            self.assertEqual(matrix[PRIMES.index(p)][PRIMES.index(q)], number)
            self.assertEqual(matrix[PRIMES.index(q)][PRIMES.index(p)], -number)
        for p in PRIMES:
            self.assertEqual(wedge.at(p=p, q=p), 0)
        matrix[0][1] = 99
        self.assertEqual(wedge.at(2, 3), 1)
        self.assertEqual(wedge.matrix()[0][1], 1)
        self.assertIsInstance(wedge.matrix()[5], list)

    def test_no_prime(self):
        wedge = nothing()
        for value in any_values() + [1, 4, 9, 17, -2]:
            with self.assertRaises(NoPrime) as caught:
                wedge.at(value, "other")
            self.assertIs(caught.exception.value, value)
            with self.assertRaises(NoPrime) as caught:
                wedge.at(13, value)
            self.assertIs(caught.exception.value, value)

    def test_refused(self):
        wrong = [
            ([0] * 14,), ([0] * 16,), ((True,) + (0,) * 14,), ([0] * 15, [0] * 5), ([0] * 15, [0] * 7),
            ([0] * 15, [2, 0, 0, 0, 0, 0]), ([0] * 15, [-1, 0, 0, 0, 0, 0]), ([0] * 15, [True, 0, 0, 0, 0, 0]),
            ([0] * 15, [0, 0, 0, 0, 0, False]), (["0"] * 15,), ([None] * 15,), ("0" * 15,), ([ONE] * 15,),
            ([0] * 15, "000000"), ([0] * 15, None),
        ]
        for values in wrong:
            self.assertRaises(BadWedge, Wedge, *values)
        for value in any_values():
            self.assertRaises(BadWedge, Wedge, value)
            self.assertRaises(BadWedge, Wedge, [0] * 15, value)

    def test_rank_owed_content_flat(self):
        rng = random.Random(1)
        ranks = set()
        for _ in range(80):
            wedge = some_wedge(rng)
            self.assertEqual(wedge.rank, rank_of(wedge.matrix()))
            self.assertEqual(wedge.owed * 2, wedge.rank)
            shared = 0
            for number in wedge.pairs():
                shared = gcd(shared, number)
            self.assertEqual(wedge.content, shared)
            self.assertIs(wedge.flat, not any(wedge.pairs()))
            ranks.add(wedge.rank)
        self.assertEqual(ranks, {0, 2, 4, 6})
        full = Wedge([1, 0, 0, 0, 0, 0, 0, 0, 0, 1, 0, 0, 0, 0, 1])
        self.assertEqual((full.rank, full.owed, full.content), (6, 3, 1))
        self.assertEqual((full * 12).content, 12)
        bits = Wedge([0] * 15, [1] * 6)
        self.assertEqual((bits.flat, bits.rank, bits.owed, bits.content), (True, 0, 0, 0))

    def test_truth(self):
        self.assertFalse(nothing())
        self.assertTrue(Wedge([0] * 15, [0, 0, 0, 0, 0, 1]))
        self.assertTrue(Wedge([0] * 14 + [-1]))

    def test_texts(self):
        self.assertEqual(EXAMPLE.text(), "2.3=4 2.5=-3 3.5=2 2")
        self.assertEqual(str(EXAMPLE), EXAMPLE.text())
        self.assertEqual(Wedge([1] + [0] * 14, [0, 1, 0, 0, 0, 0]).text(), "2.3=1 3")
        self.assertEqual(repr(Wedge([1] + [0] * 14, [0, 1, 0, 0, 0, 0])), "Wedge(2.3=1 3)")
        self.assertEqual(nothing().text(), "nothing")
        self.assertEqual(repr(nothing()), "Wedge(nothing)")
        self.assertEqual(Wedge([0] * 15, [1, 0, 0, 0, 0, 1]).text(), "2 13")
        self.assertEqual(Wedge([0] * 14 + [-5]).text(), "11.13=-5")
        every = " ".join(f"{p}.{q}=1" for p, q in PAIRS) + " 2 3 5 7 11 13"
        self.assertEqual(Wedge([1] * 15, [1] * 6).text(), every)

    def test_equal(self):
        self.assertEqual(Wedge([1] * 15), Wedge((1,) * 15, [0] * 6))
        self.assertNotEqual(Wedge([1] * 15), Wedge([1] * 15, [1, 0, 0, 0, 0, 0]))
        self.assertNotEqual(Wedge([1] * 15), Wedge([1] * 14 + [2]))
        for value in any_values() + [(0,) * 15, 0, False]:
            self.assertIs(Wedge([1] * 15) == value, False)


class AddedTest(unittest.TestCase):
    def test_sums(self):
        rng = random.Random(2)
        for _ in range(40):
            one = some_wedge(rng)
            two = some_wedge(rng)
            bits = tuple((a + b) % 2 for a, b in zip(one.bits(), two.bits()))
            self.assertEqual((one + two).pairs(), tuple(a + b for a, b in zip(one.pairs(), two.pairs())))
            self.assertEqual((one - two).pairs(), tuple(a - b for a, b in zip(one.pairs(), two.pairs())))
            self.assertEqual((one + two).bits(), bits)
            self.assertEqual((one - two).bits(), bits)
            self.assertEqual((-one).pairs(), tuple(-a for a in one.pairs()))
            self.assertEqual((-one).bits(), one.bits())
            self.assertEqual(one - two, one + (-two))
            self.assertFalse(one - one)

    def test_multiples(self):
        rng = random.Random(3)
        for k in (-3, -2, -1, 0, 1, 2, 5, 10**200 + 1):
            wedge = some_wedge(rng)
            for found in (wedge * k, k * wedge):
                self.assertEqual(found.pairs(), tuple(k * number for number in wedge.pairs()))
                self.assertEqual(found.bits(), tuple(k * bit % 2 for bit in wedge.bits()))

    def test_arguments_stay(self):
        one = Wedge([1] * 15, [1] * 6)
        two = Wedge([2] * 15, [0] * 6)
        results = [one + two, one - two, -one, one * 3, 3 * one]
        self.assertEqual(len(results), 5)
        self.assertEqual((one, two), (Wedge([1] * 15, [1] * 6), Wedge([2] * 15, [0] * 6)))


class OfRatiosTest(unittest.TestCase):
    def test_by_powers(self):
        rng = random.Random(4)
        for _ in range(40):
            u = some_ratio(rng)
            v = some_ratio(rng)
            w = some_ratio(rng)
            a, b = u.powers(), v.powers()
            numbers = [a[p] * b[q] - a[q] * b[p] for p, q in combinations(range(6), 2)]
            bits = [one * two % 2 for one, two in zip(a, b)]
            self.assertEqual(wedge_of(u, v), Wedge(numbers, bits))
            self.assertEqual(wedge_of(u, v * w), wedge_of(u, v) + wedge_of(u, w))
            self.assertEqual(wedge_of(v, u), -wedge_of(u, v))
            self.assertEqual(wedge_of(u, u), Wedge([0] * 15, u.bits()))
            self.assertEqual(wedge_of(ONE // v, u).pairs(), wedge_of(u, v).pairs())
            self.assertEqual(wedge_of(u=u, v=v).matrix()[0][1], a[0] * b[1] - a[1] * b[0])

    def test_nothing(self):
        self.assertEqual(nothing(), Wedge([0] * 15))
        self.assertEqual(wedge_of(ONE, Ratio(3, 2)), nothing())


class PfaffianTest(unittest.TestCase):
    def test_small(self):
        wedge = Wedge(list(range(1, 16)))
        self.assertEqual(pfaffian(wedge, []), 1)
        self.assertEqual(pfaffian(wedge, [7]), 0)
        self.assertEqual(pfaffian(wedge, (2, 3, 5)), 0)
        self.assertEqual(pfaffian(wedge, [5, 11]), wedge.at(5, 11))
        at = wedge.at
        four = at(2, 3) * at(5, 7) - at(2, 5) * at(3, 7) + at(2, 7) * at(3, 5)
        self.assertEqual(pfaffian(wedge=wedge, primes=[2, 3, 5, 7]), four)
        self.assertEqual(square_at(wedge, []), [])
        self.assertEqual(square_at(wedge, [2]), [[0]])
        self.assertEqual(square_at(wedge, (3, 7)), [[0, at(3, 7)], [-at(3, 7), 0]])

    def test_determinants(self):
        rng = random.Random(5)
        for _ in range(20):
            wedge = some_wedge(rng, 5)
            for many in range(7):
                for primes in combinations(PRIMES, many):
                    square = square_at(wedge, list(primes))
                    self.assertEqual(square, [[wedge.at(p, q) for q in primes] for p in primes])
                    self.assertEqual(determinant(square), pfaffian(wedge, primes) ** 2)

    def test_sign_of_six(self):
        wedge = Wedge([1, 0, 0, 0, 0, 0, 0, 0, 0, 1, 0, 0, 0, 0, 1])
        self.assertEqual(pfaffian(wedge, list(PRIMES)), 1)
        self.assertEqual(pfaffian(-wedge, list(PRIMES)), -1)

    def test_no_prime(self):
        wedge = nothing()
        for value in any_values() + [4, 17]:
            for function in (pfaffian, square_at):
                with self.assertRaises(NoPrime) as caught:
                    function(wedge, [2, value, "other"])
                self.assertIs(caught.exception.value, value)

    def test_arguments_stay(self):
        primes = [2, 3, 5, 7]
        square_at(EXAMPLE, primes).append(1)
        square_at(EXAMPLE, primes)[0][1] = 9
        pfaffian(EXAMPLE, primes)
        self.assertEqual(primes, [2, 3, 5, 7])
        self.assertEqual(EXAMPLE.text(), "2.3=4 2.5=-3 3.5=2 2")


if __name__ == "__main__":
    unittest.main()
