"""Promise 33: paired courses."""

import random
import unittest
from collections import Counter

from tests.samples import INTERVALS, ONE, TWO, some_pair, some_swap
from turnsleft.courses import Course
from turnsleft.errors import NotFair, Odd
from turnsleft.making import course_for
from turnsleft.moves import Swap, arranged, commutator, fold, still
from turnsleft.pairing import paired_course
from turnsleft.ratios import PRIMES, Ratio


def is_paired(course):
    """Whether each length occurs an even number of times."""
    return all(many % 2 == 0 for many in Counter(swap.length.text() for swap in course.swaps()).values())


class PairedTest(unittest.TestCase):
    def check(self, exchange):
        course = paired_course(exchange)
        self.assertIsInstance(course, Course)
        self.assertTrue(is_paired(course))
        self.assertEqual(course.top, exchange.top)
        self.assertIs(course.keeps, True)
        self.assertEqual(course.made(), exchange)
        self.assertEqual(paired_course(exchange), course)

    def test_commutators(self):
        rng = random.Random(1)
        for many in (2, 3, 4, 5, 6, 8):
            for _ in range(5):
                self.check(commutator(*some_pair(rng, many)))

    def test_that_stays(self):
        self.check(still(TWO))
        self.check(still(Ratio(11, 10)))
        self.assertEqual(len(paired_course(exchange=still(TWO))), 0)

    def test_even_lengths(self):
        # single swaps whose length has no bits: the course has to be cut
        for length in (Ratio(4), Ratio(9, 4), Ratio(81, 64), Ratio(25, 9), Ratio(16)):
            self.check(Swap(ONE, length, length).on(length * length))
            self.check(Swap(Ratio(3), Ratio(5) * length, length).on(Ratio(6) * length * length))
        # two swaps, and three, which have no bits together
        one = Swap(ONE, Ratio(3), Ratio(2)).on(Ratio(64))
        other = Swap(ONE, Ratio(8), Ratio(8)).on(Ratio(64))
        self.check(one >> other)
        third = Swap(Ratio(2), Ratio(9), Ratio(3)).on(Ratio(64))
        last = Swap(ONE, Ratio(6), Ratio(6)).on(Ratio(64))
        self.check(one >> third >> last)

    def test_many_swaps(self):
        rng = random.Random(2)
        seen = 0
        for _ in range(60):
            done = still(Ratio(4))
            for _ in range(rng.randint(1, 4)):
                done = done >> some_swap(rng, Ratio(4)).on(Ratio(4))
            odd = [prime for prime, bit in zip(PRIMES, done.wedge.bits()) if bit == 1]
            if not odd:
                seen += 1
                self.check(done)
                continue
            self.assertEqual(course_for(done).made(), done)
            with self.assertRaises(Odd) as caught:
                paired_course(done)
            self.assertEqual(caught.exception.prime, odd[0])
        self.assertGreater(seen, 0)

    def test_odd(self):
        for length in INTERVALS:
            prime = next((p for p, bit in zip(PRIMES, length.bits()) if bit == 1), None)
            exchange = arranged([length, Ratio(7), length], [2, 1, 0])
            if prime is None:
                self.check(exchange)
                continue
            with self.assertRaises(Odd) as caught:
                paired_course(exchange)
            self.assertEqual(caught.exception.prime, prime)

    def test_not_fair_first(self):
        # the bit of 2 is 1, and the table is not flat
        exchange = fold(TWO, Ratio(3)) >> Swap(ONE, Ratio(3, 2), Ratio(9, 8)).on(TWO)
        for e in (exchange, fold(TWO, Ratio(3, 2))):
            with self.assertRaises(NotFair) as caught:
                paired_course(e)
            self.assertEqual((caught.exception.first, caught.exception.second), (2, 3))


if __name__ == "__main__":
    unittest.main()
