"""Promise 11: relations, loose ratios, roots and parts of a base."""

import random
import unittest
from itertools import combinations
from math import gcd

from tests.samples import INTERVALS, ONE, TWO, multiplied, some_length, some_ratio
from turnsleft.matrices import determinant, rank_of
from turnsleft.ratios import Ratio
from turnsleft.relations import is_base_part, is_loose, relation, root_of


def is_relation(ratios, exponents):
    """Whether a tuple of exponents is a relation without a common divisor above 1."""
    if not isinstance(exponents, tuple) or len(exponents) != len(ratios) or gcd(*exponents) != 1:
        return False
    product = ONE
    for ratio, exponent in zip(ratios, exponents):
        for _ in range(abs(exponent)):
            product = product * ratio if exponent > 0 else product // ratio
    return product == ONE


class RelationTest(unittest.TestCase):
    def test_named_cases(self):
        self.assertIsNone(relation([]))
        self.assertIs(is_loose([]), True)
        self.assertIn(relation([ONE]), ((1,), (-1,)))
        self.assertIs(is_loose([ONE]), False)
        self.assertIn(relation([TWO, TWO]), ((1, -1), (-1, 1)))
        self.assertIsNone(relation([TWO]))
        self.assertIsNone(relation((Ratio(9, 8), Ratio(10, 9), Ratio(16, 15))))
        self.assertIn(relation([Ratio(4), Ratio(8)]), ((3, -2), (-3, 2)))
        self.assertIn(relation([Ratio(1, 4), Ratio(8)]), ((3, 2), (-3, -2)))

    def test_by_rank(self):
        rng = random.Random(1)
        for _ in range(80):
            ratios = [some_ratio(rng, 1) for _ in range(rng.randint(1, 8))]
            loose = rank_of([list(ratio.powers()) for ratio in ratios]) == len(ratios)
            found = relation(ratios=ratios)
            self.assertEqual(found is None, loose)
            self.assertIs(is_loose(ratios), loose)
            if found is not None:
                self.assertTrue(is_relation(ratios, found), ratios)

    def test_great_powers(self):
        rng = random.Random(2)
        for _ in range(10):
            ratios = [some_ratio(rng, 40) for _ in range(7)]
            found = relation(ratios)
            self.assertEqual(gcd(*found), 1)
            for at in range(6):
                self.assertEqual(sum(e * ratio.powers()[at] for e, ratio in zip(found, ratios)), 0)

    def test_long_lists(self):
        ratios = INTERVALS * 22
        found = relation(ratios)
        self.assertTrue(is_relation(ratios, found))
        self.assertEqual(relation(ratios), found)
        self.assertEqual(ratios, INTERVALS * 22)


class RootTest(unittest.TestCase):
    def test_roots(self):
        self.assertEqual(root_of(Ratio(9, 8)), (Ratio(9, 8), 1))
        self.assertEqual(root_of(Ratio(9, 4)), (Ratio(3, 2), 2))
        self.assertEqual(root_of(ratio=Ratio(1024)), (TWO, 10))
        self.assertEqual(root_of(Ratio(2**9999)), (TWO, 9999))
        self.assertIsInstance(root_of(TWO), tuple)

    def test_powers_of_roots(self):
        rng = random.Random(3)
        for _ in range(30):
            length = some_length(rng)
            g, k = root_of(length)
            self.assertEqual(g.power(k), length)
            self.assertTrue(ONE.below(g))
            self.assertEqual(gcd(*g.powers()), 1)
            self.assertEqual(root_of(length.power(6)), (g, 6 * k))

    def test_returned_ratios_of_any_size(self):
        huge = Ratio.of_powers([9999, -6000, 0, 0, 0, 0]).power(3)
        g, k = root_of(huge)
        self.assertEqual((g.powers(), k), ((3333, -2000, 0, 0, 0, 0), 9))
        odd = Ratio.of_powers([9999, -1, 0, 0, 0, 0])
        odd = odd * odd * Ratio(2, 3)
        self.assertEqual(root_of(odd), (odd, 1))


class BasePartTest(unittest.TestCase):
    def test_named_cases(self):
        self.assertIs(is_base_part([]), True)
        self.assertIs(is_base_part([Ratio(p) for p in (2, 3, 5, 7, 11, 13)]), True)
        self.assertIs(is_base_part([Ratio(p) for p in (2, 3, 5, 7, 11, 13)] + [ONE]), False)
        self.assertIs(is_base_part([TWO] * 400), False)
        self.assertIs(is_base_part([Ratio(4)]), False)
        self.assertIs(is_base_part([Ratio(9, 8)]), True)
        self.assertIs(is_base_part([ONE]), False)
        self.assertIs(is_base_part((Ratio(9, 8), Ratio(10, 9), Ratio(16, 15))), True)
        self.assertIs(is_base_part([Ratio(4), Ratio(9)]), False)

    def test_by_minors(self):
        rng = random.Random(4)
        for _ in range(60):
            ratios = [some_ratio(rng, 1) for _ in range(rng.randint(1, 7))]
            shared = 0
            for columns in combinations(range(6), len(ratios)):
                shared = gcd(shared, determinant([[ratio.powers()[at] for at in columns] for ratio in ratios]))
            self.assertIs(is_base_part(ratios), shared == 1)

    def test_products_are_bound(self):
        ratios = INTERVALS[:2] + [multiplied(INTERVALS[:2])]
        self.assertIs(is_base_part(ratios), False)


if __name__ == "__main__":
    unittest.main()
