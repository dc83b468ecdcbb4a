"""Promise 31: exchanges sorted by their tables."""

import random
import unittest

from tests.samples import ONE, TWO, some_exchange, some_pair, some_swap
from turnsleft.moves import Turn, fold, still
from turnsleft.ratios import Ratio
from turnsleft.sorting import same_sort, sorts


class SortsTest(unittest.TestCase):
    def test_same_sort(self):
        rng = random.Random(1)
        for _ in range(20):
            e, g = some_pair(rng, 4)
            self.assertIs(same_sort(e, g >> e >> ~g), True)
            self.assertIs(same_sort(e, g), e.wedge.pairs() == g.wedge.pairs())
            self.assertIs(same_sort(e, ~e), e.fair)
        fifth = fold(TWO, Ratio(3, 2))
        self.assertIs(same_sort(fifth, fold(TWO, Ratio(9, 8))), False)
        # bits do not count, and tops may differ
        self.assertIs(same_sort(fifth, some_swap(rng, TWO).on(TWO) >> fifth), True)
        self.assertIs(same_sort(still(TWO), still(Ratio(7))), True)
        turn = Turn(ONE, Ratio(9, 8), Ratio(10, 9))
        self.assertIs(same_sort(e=turn.on(TWO), f=turn.on(Ratio(3))), True)

    def test_sorts(self):
        fifth = fold(TWO, Ratio(3, 2))
        tone = fold(TWO, Ratio(9, 8))
        exchanges = [fifth, still(TWO), tone, fifth.times(2), ~fifth >> fifth, still(Ratio(3)), ~fifth]
        self.assertEqual(sorts(exchanges), [[0], [1, 4, 5], [2, 3], [6]])
        self.assertEqual(sorts(tuple(exchanges)), [[0], [1, 4, 5], [2, 3], [6]])
        self.assertEqual(sorts([]), [])
        self.assertEqual(sorts(exchanges=[tone]), [[0]])

    def test_by_pairs(self):
        rng = random.Random(2)
        exchanges = [some_exchange(rng, rng.randint(1, 3)) for _ in range(60)]
        found = sorts(exchanges)
        self.assertEqual(sorted(at for sort in found for at in sort), list(range(60)))
        self.assertEqual([sort[0] for sort in found], sorted(sort[0] for sort in found))
        place = {at: k for k, sort in enumerate(found) for at in sort}
        for sort in found:
            self.assertEqual(sort, sorted(sort))
        for one in range(60):
            for other in range(60):
                self.assertEqual(place[one] == place[other], same_sort(exchanges[one], exchanges[other]))
        found[0].append(99)
        self.assertNotIn(99, sorts(exchanges)[0])


if __name__ == "__main__":
    unittest.main()
