"""Promise 67: three lengths turned about, as a window shows them of a fold."""

import random
import unittest

from tests.samples import ONE, TWO, any_values, some_length
from turnsleft.errors import BadLength
from turnsleft.moves import arranged, fold
from turnsleft.ratios import Ratio, is_length
from turnsleft.threes import three_turned
from turnsleft.wedges import wedge_of
from turnsleft.windows import Window


class ThreesTest(unittest.TestCase):
    def check(self, a, b, c):
        turned, whole = three_turned(a, b, c)
        self.assertEqual(turned, arranged([a, b, c], [2, 1, 0]))
        self.assertEqual(whole, fold(a * b * b * c, b * c))
        window = Window(whole, low=ONE, high=a * b * c)
        self.assertEqual(window.alone(), turned)
        self.assertEqual(window.towers(), [(ONE, a, 1), (a, b, 2), (a * b, c, 1)])
        both = wedge_of(a * b, b * c)
        self.assertEqual(turned.wedge.pairs(), both.pairs())
        self.assertEqual(whole.wedge.pairs(), both.pairs())

    def test_any_lengths(self):
        rng = random.Random(1)
        self.check(Ratio(9, 8), Ratio(10, 9), Ratio(16, 15))
        for _ in range(20):
            self.check(*[some_length(rng) for _ in range(3)])

    def test_equal_lengths(self):
        for a, b in [(TWO, Ratio(9, 8)), (Ratio(9, 8), TWO)]:
            self.check(a, b, a)
            self.check(a, a, b)
            self.check(b, a, a)
            # all of them equal: the fold goes by two of four parts
            turned, whole = three_turned(a, a, a)
            self.assertEqual(turned, arranged([a, a, a], [2, 1, 0]))
            self.assertEqual(whole, fold(a.power(4), a.power(2)))
            self.assertEqual(Window(whole, low=ONE, high=a.power(3)).alone(), turned)

    def test_by_name(self):
        self.assertEqual(three_turned(c=Ratio(3), a=TWO, b=Ratio(5)), three_turned(TWO, Ratio(5), Ratio(3)))

    def test_no_lengths(self):
        for value in [*any_values(), ONE, Ratio(1, 2)]:
            if is_length(value):
                continue
            for at, values in enumerate([(value, value, None), (TWO, value, None), (TWO, TWO, value)]):
                with self.assertRaises(BadLength) as caught:
                    three_turned(*values)
                self.assertEqual(caught.exception.at, at)


if __name__ == "__main__":
    unittest.main()
