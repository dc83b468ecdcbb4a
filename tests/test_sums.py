"""Promise 16: the table of an exchange, by turned pairs, by their sum and by the straight matrix."""

import random
import unittest
from itertools import combinations

from tests.samples import ONE, TWO, cut_rows, fraction, some_exchange, some_lengths, some_pair, shuffled
from turnsleft.exchanges import Exchange
from turnsleft.moves import arranged, fold, still
from turnsleft.ratios import Ratio
from turnsleft.sums import pair_sum, straight_matrix, turned_pairs
from turnsleft.wedges import nothing, wedge_of


def pairs_by_fractions(rows):
    """The turned pairs, by their definition."""
    pairs = []
    for i, (low, _, up) in enumerate(rows):
        for j, (high, _, down) in enumerate(rows):
            if fraction(low) < fraction(high) and fraction(low * up) > fraction(high * down):
                pairs.append((i, j))
    return pairs


def sum_by_pairs(rows):
    """The sum of the wedges of the turned pairs, one after another."""
    total = nothing()
    for i, j in pairs_by_fractions(rows):
        total = total + wedge_of(rows[i][1], rows[j][1])
    return total


class SumsTest(unittest.TestCase):
    def test_small(self):
        self.assertEqual(list(turned_pairs([])), [])
        self.assertEqual(pair_sum([]), nothing())
        self.assertEqual(straight_matrix([]), [[0] * 6 for _ in range(6)])
        rows = fold(TWO, Ratio(3, 2)).rows()
        self.assertEqual(list(turned_pairs(rows)), [(0, 1)])
        self.assertEqual(list(turned_pairs(rows=tuple(rows[::-1]))), [(1, 0)])
        self.assertEqual(pair_sum(rows).text(), "2.3=1 3")
        self.assertEqual(pair_sum(rows=rows[::-1]).text(), "2.3=1 3")

    def test_generator(self):
        rows = arranged([Ratio(9, 8), Ratio(10, 9), Ratio(16, 15)], [2, 1, 0]).rows()
        pairs = turned_pairs(rows)
        self.assertEqual(next(pairs), (0, 1))
        self.assertEqual(list(pairs), [(0, 2), (1, 2)])

    def test_three_ways(self):
        rng = random.Random(1)
        for _ in range(40):
            exchange = some_exchange(rng, rng.randint(1, 9))
            wedge = exchange.wedge
            for rows in (exchange.rows(), cut_rows(rng, exchange.rows()), cut_rows(rng, cut_rows(rng, exchange.rows()))):
                self.assertEqual(list(turned_pairs(rows)), pairs_by_fractions(rows))
                self.assertEqual(pair_sum(rows), wedge)
                self.assertEqual(sum_by_pairs(rows), wedge)
                matrix = straight_matrix(rows)
                for p in range(6):
                    self.assertEqual(matrix[p][p], 0)
                    for q in range(6):
                        number = sum(length.powers()[p] * factor.powers()[q] for _, length, factor in rows)
                        self.assertEqual(matrix[p][q], number)
                self.assertEqual(matrix, wedge.matrix())
                self.assertEqual(wedge.pairs(), tuple(matrix[p][q] for p, q in combinations(range(6), 2)))

    def test_order_of_pairs(self):
        rng = random.Random(2)
        for _ in range(10):
            rows = cut_rows(rng, some_exchange(rng, 8).rows())
            pairs = list(turned_pairs(rows))
            self.assertEqual(pairs, sorted(pairs))
            self.assertTrue(all(type(pair) is tuple for pair in pairs))

    def test_rows_between_lines(self):
        rows = [
            (Ratio(4), Ratio(3, 2), Ratio(1, 8)),
            (Ratio(1, 2), Ratio(3, 2), Ratio(8)),
            (Ratio(3, 4), Ratio(10, 9), ONE),
        ]
        self.assertEqual(list(turned_pairs(rows)), [(1, 0), (1, 2), (2, 0)])
        self.assertEqual(pair_sum(rows), sum_by_pairs(rows))
        # the first two lengths are equal and their factors undo one another
        self.assertEqual(straight_matrix(rows), [[0] * 6 for _ in range(6)])
        self.assertEqual(straight_matrix(rows[:1])[1][0], -3)
        self.assertEqual(straight_matrix(rows[:1])[0][0], 3)

    def test_long_lists(self):
        rng = random.Random(3)
        exchange = arranged(some_lengths(rng, 400), shuffled(rng, 400))
        self.assertEqual(pair_sum(exchange.rows()), exchange.wedge)
        self.assertEqual(straight_matrix(exchange.rows()), exchange.wedge.matrix())
        self.assertEqual(sum_by_pairs(exchange.rows()), exchange.wedge)

    def test_arguments_stay(self):
        rows = cut_rows(random.Random(4), fold(TWO, Ratio(9, 8)).rows())
        copy = list(rows)
        list(turned_pairs(rows))
        pair_sum(rows)
        straight_matrix(rows)[0][0] = 5
        self.assertEqual(rows, copy)
        self.assertEqual(straight_matrix(rows)[0][0], 0)


class WedgeTest(unittest.TestCase):
    def test_facts(self):
        rng = random.Random(5)
        for _ in range(25):
            e, f = some_pair(rng)
            self.assertEqual((e >> f).wedge, e.wedge + f.wedge)
            self.assertEqual((~e).wedge, -e.wedge)
            self.assertEqual((f >> e >> ~f).wedge, e.wedge)
            self.assertEqual(e.times(3).wedge, e.wedge * 3)
            self.assertEqual(e.fair, e.wedge.flat)
            self.assertEqual(e.owed, e.wedge.owed)
            self.assertIs(type(e.fair), bool)

    def test_named_cases(self):
        self.assertEqual(still(TWO).wedge, nothing())
        self.assertTrue(still(TWO).fair)
        self.assertEqual(still(TWO).owed, 0)
        tritone = Exchange(TWO, [(ONE, Ratio(3, 2), Ratio(4, 3)), (Ratio(3, 2), Ratio(4, 3), Ratio(2, 3))])
        self.assertEqual(tritone.wedge, wedge_of(Ratio(3, 2), Ratio(4, 3)))
        self.assertEqual((tritone.fair, tritone.owed), (False, 1))


if __name__ == "__main__":
    unittest.main()
