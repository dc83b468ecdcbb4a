"""Promise 30: steps home."""

import random
import unittest
from itertools import permutations

from tests.samples import any_values, shuffled
from turnsleft.errors import BadOrder
from turnsleft.letters import steps_home


def turned(order):
    """How many pairs of items of an order have the greater one ahead."""
    return sum(one > other for at, one in enumerate(order) for other in order[at + 1:])


class StepsTest(unittest.TestCase):
    def check(self, order):
        left = list(order)
        steps = steps_home(order)
        self.assertIsInstance(steps, list)
        self.assertEqual(len(steps), turned(left))
        for k in steps:
            self.assertGreater(left[k], left[k + 1])
            left[k], left[k + 1] = left[k + 1], left[k]
        self.assertEqual(left, sorted(left))

    def test_small_orders(self):
        for many in range(6):
            for order in permutations(range(many)):
                self.check(list(order))
                self.check(order)

    def test_long_orders(self):
        rng = random.Random(1)
        for many in (10, 40, 400):
            self.check(shuffled(rng, many))
        self.check(list(range(60))[::-1])

    def test_the_list_stays(self):
        order = [2, 0, 1]
        first = steps_home(order)
        first.append(7)
        self.assertEqual(order, [2, 0, 1])
        self.assertEqual(steps_home(order), first[:-1])
        self.assertEqual(steps_home(order=order), first[:-1])

    def test_no_orders(self):
        wrong = [[1], [0, 2], [0, 0], [-1, 0], [1, True], [False], [0, 1, True], [0, "1"], (1, 2), {0: 0}, "01", range(2)]
        for value in wrong + [value for value in any_values() if value not in ([], ())]:
            self.assertRaises(BadOrder, steps_home, value)


if __name__ == "__main__":
    unittest.main()
