"""Promises 27, 28, 29, 32, 40 and 42: courses made, refused, between exchanges, through and back, and around."""

import random
import unittest
from math import gcd

from tests.samples import INTERVALS, ONE, TWO, shuffled, some_exchange, some_length, some_pair, some_swap
from turnsleft.courses import Course
from turnsleft.errors import NotFair, OtherLine
from turnsleft.exchanges import Exchange
from turnsleft.making import course_between, course_for
from turnsleft.moves import Swap, Turn, arranged, commutator, fold, still
from turnsleft.ratios import PRIMES, Ratio, multiplied

NINE = Ratio(9, 8)
TEN = Ratio(10, 9)


def pairs_of_primes():
    """All pairs of primes, ascending."""
    return [(p, q) for p in PRIMES for q in PRIMES if p < q]


def first_number(wedge):
    """The least pair of primes whose number is not 0."""
    for p, q in pairs_of_primes():
        if wedge.at(p, q) != 0:
            return p, q
    return None


def refused(case, function, *values):
    """The pair that NotFair has."""
    with case.assertRaises(NotFair) as caught:
        function(*values)
    return caught.exception.first, caught.exception.second


def fair_exchanges(rng):
    """Fair exchanges of several kinds."""
    for _ in range(25):
        yield commutator(*some_pair(rng, rng.randint(2, 6)))
    for many in (1, 2, 3, 5, 9, 20):
        top = Ratio(rng.choice([2, 4, 12]))
        done = still(top)
        for _ in range(many):
            done = done >> some_swap(rng, top).on(top)
        yield done
    for many in (2, 5, 12):
        yield arranged([rng.choice(INTERVALS)] * many, shuffled(rng, many))
    # two turns that take one another back, side by side, with lengths that are loose, and with bound ones
    for first, second in [(NINE, TEN), (Ratio(4), Ratio(2)), (Ratio(13, 7), Ratio(11, 5)), (Ratio(6), Ratio(36))]:
        yield arranged([first, second, second, first], [1, 0, 3, 2])
    # (4, 2) turned once is (2, 2) turned twice, and (8, 3) turned once is (2, 3) turned three times
    yield arranged([Ratio(3), Ratio(8)] + [TWO, Ratio(3)] * 3, [1, 0, 3, 2, 5, 4, 7, 6])
    for _ in range(6):
        lengths = [some_length(rng, 2) for _ in range(3)]
        way = arranged(lengths, shuffled(rng, 3))
        other = arranged(lengths[::-1], shuffled(rng, 3))
        yield commutator(way, other)


class MadeTest(unittest.TestCase):
    def check(self, exchange):
        course = course_for(exchange)
        self.assertIsInstance(course, Course)
        self.assertEqual(course.top, exchange.top)
        self.assertFalse(course.room.below(course.top))
        self.assertIs(course.keeps, True)
        self.assertEqual(course.made(), exchange)
        self.assertEqual(course_for(Exchange(exchange.top, exchange.rows()[::-1])), course)
        # promise 32
        self.assertEqual(course.product.bits(), exchange.wedge.bits())

    def test_fair_ones(self):
        rng = random.Random(2)
        for exchange in fair_exchanges(rng):
            self.check(exchange)

    def test_that_stays(self):
        for top in (TWO, Ratio(9, 8), Ratio(2**40), Ratio(13, 11)):
            self.check(still(top))
            self.assertEqual(course_for(still(top)).made(), still(top))

    def test_single_swaps(self):
        for swap in (Swap(ONE, Ratio(3, 2), NINE), Swap(ONE, NINE, NINE), Swap(Ratio(4, 3), Ratio(5, 3), Ratio(6, 5))):
            self.check(swap.on(TWO))

    def test_great_powers(self):
        great = Ratio.of_powers([40, -1, 0, 3, 0, 0])
        other = Ratio.of_powers([-38, 40, 0, 0, -1, 0])
        self.check(commutator(arranged([great, other, TWO], [2, 1, 0]), arranged([other, TWO, great], [2, 0, 1])))
        self.check(arranged([great, other, other, great], [1, 0, 3, 2]))

    def test_rows_of_one_sixth(self):
        rng = random.Random(3)
        self.check(commutator(*some_pair(rng, 10)))

    def test_named(self):
        exchange = Swap(ONE, NINE, NINE).on(TWO)
        self.assertEqual(course_for(exchange=exchange), course_for(exchange))
        self.assertEqual(course_between(f=exchange, e=still(TWO)), course_between(still(TWO), exchange))


class UnfairTest(unittest.TestCase):
    def test_least_pair(self):
        rng = random.Random(4)
        seen = set()
        for _ in range(60):
            exchange = some_exchange(rng, 4)
            pair = first_number(exchange.wedge)
            if pair is None:
                self.assertEqual(course_for(exchange).made(), exchange)
                continue
            seen.add(pair)
            self.assertEqual(refused(self, course_for, exchange), pair)
            # fair swaps ahead and behind
            top = exchange.top
            if not top.below(TWO):
                swapped = some_swap(rng, TWO).on(top) >> exchange >> some_swap(rng, TWO).on(top)
                self.assertEqual(refused(self, course_for, swapped), pair)
        self.assertGreater(len(seen), 2)

    def test_each_pair(self):
        for p, q in pairs_of_primes():
            exchange = Turn(ONE, Ratio(q), Ratio(p)).on(Ratio(p * q))
            self.assertEqual(refused(self, course_for, exchange), (p, q))

    def test_example(self):
        self.assertEqual(refused(self, course_for, fold(TWO, Ratio(3, 2))), (2, 3))


class BetweenTest(unittest.TestCase):
    def test_between(self):
        rng = random.Random(5)
        for many in (2, 3, 4, 5, 6):
            for _ in range(4):
                e, g = some_pair(rng, many)
                f = g >> e >> ~g
                for one, other in ((e, f), (f, e), (e, e)):
                    course = course_between(one, other)
                    self.assertIs(course.keeps, True)
                    self.assertEqual(one >> course.made(), other)
                    self.assertEqual(course_between(one, other), course)

    def test_refused(self):
        rng = random.Random(6)
        for _ in range(30):
            e, f = some_pair(rng, 4)
            pair = first_number(e.wedge - f.wedge)
            if pair is not None:
                self.assertEqual(refused(self, course_between, e, f), pair)
        # at 2 and 3 both have a number, and these are equal
        one = arranged([TWO, Ratio(3), Ratio(5), Ratio(7)], [1, 0, 2, 3])
        other = arranged([TWO, Ratio(3), Ratio(5), Ratio(7)], [1, 0, 3, 2])
        self.assertEqual(refused(self, course_between, one, other), (5, 7))

    def test_other_line_first(self):
        e = fold(TWO, Ratio(3, 2))
        for f in (fold(Ratio(4), Ratio(5)), still(Ratio(3)), fold(Ratio(3), Ratio(2))):
            self.assertRaises(OtherLine, course_between, e, f)
            self.assertRaises(OtherLine, course_between, f, e)


class ThroughTest(unittest.TestCase):
    def test_through_and_back(self):
        rng = random.Random(7)
        for _ in range(20):
            e, g = some_pair(rng, rng.randint(2, 5))
            led = g >> e >> ~g
            self.assertEqual(led.wedge, e.wedge)
            self.assertEqual(e >> course_between(e, led).made(), led)

    def test_carried(self):
        rng = random.Random(8)
        for _ in range(12):
            e, g = some_pair(rng, 4)
            fair = commutator(e, g)
            course = course_for(fair).carried(g)
            self.assertEqual(course.made(), g >> fair >> ~g)
            self.assertEqual(course.product.bits(), fair.wedge.bits())


def order_of(order):
    """After how many times an order of indexes stays."""
    many = 1
    for at in range(len(order)):
        length = 1
        here = order[at]
        while here != at:
            here = order[here]
            length += 1
        many = many * length // gcd(many, length)
    return many


class AroundTest(unittest.TestCase):
    def test_coming_round(self):
        rng = random.Random(9)
        for _ in range(15):
            length = rng.choice(INTERVALS)
            order = shuffled(rng, rng.randint(2, 6))
            around = arranged([length] * len(order), order)
            # led through any other exchange of the line, it still comes round
            way = arranged([length * length, multiplied([length] * (len(order) - 2))], [1, 0]) if len(order) > 2 else around
            other = fold(around.top, rng.choice(INTERVALS))
            for g in (way, other, way >> other):
                e = g >> around >> ~g
                self.assertEqual(e.times(order_of(order)), still(around.top))
                self.assertIs(e.fair, True)
                self.assertEqual(course_for(e).made(), e)


if __name__ == "__main__":
    unittest.main()
