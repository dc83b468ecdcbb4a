"""Staircases of whole vectors, on which atoms and later lattices rest."""

import random
import unittest

from turnsleft.stairs import counts_on, lead_of, nearest, needed_ones, staircase_of


class StairsTest(unittest.TestCase):
    def test_nearest(self):
        for divisor in (1, 2, 3, 4, 7, -1, -2, -5, -6):
            for number in range(-30, 31):
                found = nearest(number, divisor)
                self.assertLessEqual(2 * abs(number - found * divisor), abs(divisor))
                if 2 * abs(number - found * divisor) == abs(divisor):
                    self.assertLess(2 * abs(found * divisor), 2 * abs(number))

    def test_needed(self):
        self.assertEqual(needed_ones([]), [])
        self.assertEqual(needed_ones([(4, 0), (8, 0), (6, 0), (2, 0), (0, 1), (2, 5)]), [0, 2, 4])
        self.assertEqual(needed_ones([(0, 0), (1, 1)]), [1])

    def test_small(self):
        self.assertEqual(staircase_of([]), [])
        self.assertEqual(staircase_of([(0, 0)]), [])
        self.assertEqual(staircase_of([(2, 4), (3, 1)]), [[1, 7], [0, 10]])
        self.assertEqual(staircase_of([(-2, 0), (0, -3)]), [[2, 0], [0, 3]])
        self.assertEqual(staircase_of([(0, 2), (1, 7)]), [[1, 1], [0, 2]])
        self.assertEqual(staircase_of([(4,), (6,)]), [[2]])
        self.assertEqual([lead_of(vector) for vector in ([], [0, 0], [0, -1], [3, 0])], [None, None, 1, 0])

    def test_form_and_sums(self):
        rng = random.Random(1)
        for _ in range(100):
            width = rng.randint(1, 6)
            vectors = [tuple(rng.randint(-9, 9) for _ in range(width)) for _ in range(rng.randint(0, 8))]
            stairs = staircase_of(vectors)
            leads = [lead_of(row) for row in stairs]
            self.assertEqual(leads, sorted(set(leads)))
            for at, (row, lead) in enumerate(zip(stairs, leads)):
                self.assertGreater(row[lead], 0)
                for upper in stairs[:at]:
                    self.assertTrue(0 <= upper[lead] < row[lead])
            for vector in vectors:
                counts = counts_on(stairs, vector)
                found = [sum(k * row[at] for k, row in zip(counts, stairs)) for at in range(width)]
                self.assertEqual(tuple(found), vector)
            self.assertEqual(staircase_of(stairs), stairs)
            rng.shuffle(vectors)
            self.assertEqual(staircase_of(vectors), stairs)

    def test_vectors_that_are_no_sums(self):
        stairs = staircase_of([(2, 4), (3, 1)])
        self.assertIsNone(counts_on(stairs, (0, 5)))
        self.assertEqual(counts_on(stairs, (0, 10)), [0, 1])
        self.assertIsNone(counts_on([], (1,)))
        self.assertEqual(counts_on([], (0,)), [])

    def test_arguments_stay(self):
        vectors = [[2, 4], [3, 1]]
        staircase_of(vectors)
        counts_on([[1, 7], [0, 10]], vectors[0])
        self.assertEqual(vectors, [[2, 4], [3, 1]])


if __name__ == "__main__":
    unittest.main()
