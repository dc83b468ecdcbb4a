"""Promises 37 to 39 and 41: turns shrunk, turns in a window, exchanges resolved, no fewer turns."""

import random
import unittest
from itertools import combinations

from tests.samples import INTERVALS, ONE, TWO, any_values, some_exchange, some_length, some_swap
from tests.test_normal import of_rank
from turnsleft.courses import Course
from turnsleft.errors import BadLength, BadWindow, Level, TooLong
from turnsleft.making import course_for
from turnsleft.matrices import determinant
from turnsleft.moves import Swap, Turn, fold, still
from turnsleft.placing import resolved, shrunk, turns_for
from turnsleft.ratios import PRIMES, Ratio, is_length
from turnsleft.wedges import Wedge, nothing, pfaffian, square_at, wedge_of

NARROW = Ratio(1001, 1000)


class ShrunkTest(unittest.TestCase):
    def check(self, turn, most):
        swaps, last = shrunk(turn, most=most)
        self.assertIsInstance(swaps, list)
        self.assertFalse(most.below(last.first * last.second))
        self.assertEqual(last.wedge.pairs(), turn.wedge.pairs())
        here = turn
        for swap in swaps:
            self.assertTrue(most.below(here.first * here.second))
            own, here = here.smaller()
            self.assertEqual(own, swap)
        self.assertEqual(here, last)
        top = turn.end * TWO
        done = still(top)
        for swap in swaps:
            done = done >> swap.on(top)
        self.assertEqual(done >> last.on(top), turn.on(top))

    def test_smaller_ones(self):
        rng = random.Random(1)
        for _ in range(20):
            first, second = rng.sample(INTERVALS, 2)
            turn = Turn(rng.choice([ONE, Ratio(7, 5)]), first, second)
            if turn.wedge.flat:
                continue
            for most in (TWO, Ratio(10, 9), Ratio(100, 99)):
                self.check(turn, most)
        self.check(Turn(ONE, TWO, Ratio(3)), NARROW)
        self.check(Turn(ONE, TWO, Ratio(3)), Ratio(5))

    def test_none_needed(self):
        turn = Turn(Ratio(3), Ratio(9, 8), Ratio(10, 9))
        for most in (Ratio(5, 4), TWO):
            self.assertEqual(shrunk(turn, most=most), ([], turn))
        level = Turn(ONE, TWO, TWO)
        self.assertEqual(shrunk(level, most=Ratio(4)), ([], level))
        self.assertEqual(shrunk(turn=level, most=Ratio(5)), ([], level))

    def test_level(self):
        self.assertRaises(Level, shrunk, Turn(ONE, TWO, TWO), most=Ratio(3))
        # 8 and 4, 4 and 4
        self.assertRaises(Level, shrunk, Turn(ONE, Ratio(8), Ratio(4)), most=Ratio(3))
        swaps, last = shrunk(Turn(ONE, Ratio(8), Ratio(4)), most=Ratio(16))
        self.assertEqual((swaps, last), ([Swap(TWO, Ratio(8), Ratio(4))], Turn(ONE, TWO, Ratio(4))))

    def test_too_long(self):
        comma = Ratio(81, 80)
        great = comma.power(200) * comma.power(200) * TWO
        # four hundred smaller turns are enough for one, and not for the other one
        swaps, last = shrunk(Turn(ONE, great, comma), most=TWO * comma)
        self.assertEqual((len(swaps), last), (400, Turn(ONE, TWO, comma)))
        with self.assertRaises(TooLong) as caught:
            shrunk(Turn(ONE, great * comma, comma), most=TWO * comma)
        self.assertEqual(caught.exception.most, 400)
        # the lengths are equal behind four hundred smaller turns: that is seen first
        power = comma.power(200) * comma.power(200)
        self.assertRaises(Level, shrunk, Turn(ONE, power * comma, comma), most=comma)
        self.assertRaises(TooLong, shrunk, Turn(ONE, power * comma * comma, comma), most=comma)

    def test_no_lengths(self):
        for value in [value for value in any_values() if not is_length(value)] + [ONE, Ratio(1, 2), 2, (2, 1)]:
            with self.assertRaises(BadLength) as caught:
                shrunk(Turn(ONE, TWO, TWO), most=value)
            self.assertEqual(caught.exception.at, 0)


def window_errors():
    """Values that are no window of any line."""
    pairs = [(TWO, TWO), (TWO, ONE), (Ratio(1, 2), TWO), (Ratio(99, 100), Ratio(3, 2)), (1, 2), ((1, 1), (2, 1))]
    pairs += [(value, TWO) for value in any_values() if value is not None and not is_length(value)]
    return pairs + [(ONE, value) for value in any_values() if value is not None and not is_length(value)]


class WindowTest(unittest.TestCase):
    def check_turns(self, wedge, turns, low, high):
        self.assertIsInstance(turns, list)
        self.assertEqual(len(turns), wedge.owed)
        total = nothing()
        end = low
        for turn in turns:
            self.assertIsInstance(turn, Turn)
            self.assertFalse(turn.start.below(end))
            end = turn.end
            total = total + turn.wedge
        self.assertFalse(high.below(end))
        self.assertEqual(total.pairs(), wedge.pairs())

    def check(self, wedge, low, high):
        turns = turns_for(wedge, low=low, high=high)
        self.check_turns(wedge, turns, low, high)
        self.assertEqual(turns_for(wedge, low=low, high=high), turns)

    def test_windows(self):
        rng = random.Random(2)
        for turns in (0, 1, 2, 3):
            for _ in range(3):
                wedge = of_rank(rng, turns, 1)
                windows = [(ONE, TWO), (Ratio(3), Ratio(16, 5)), (ONE, Ratio(2**30)), (Ratio(7, 5), Ratio(7, 5) * NARROW)]
                for low, high in windows:
                    self.check(wedge, low, high)

    def test_great_numbers(self):
        rng = random.Random(3)
        for _ in range(4):
            self.check(Wedge([rng.randint(-60, 60) for _ in range(15)]), ONE, TWO)
        for wedge in (wedge_of(TWO, Ratio(3)) * 60, wedge_of(Ratio(9, 8), Ratio(7)) * 20, Wedge([60] * 15)):
            self.check(wedge, ONE, TWO)
            self.check(wedge, Ratio(5, 4), Ratio(4, 3))
        self.check(wedge_of(TWO, Ratio(3)) * -59, Ratio(5), Ratio(5) * NARROW)

    def test_flat(self):
        for wedge in (nothing(), Wedge([0] * 15, [1] * 6)):
            self.assertEqual(turns_for(wedge, low=ONE, high=NARROW), [])
            self.assertEqual(turns_for(wedge=wedge, high=Ratio(9), low=Ratio(8)), [])

    def test_no_windows(self):
        for wedge in (nothing(), wedge_of(TWO, Ratio(3))):
            for low, high in window_errors() + [(None, TWO), (ONE, None)]:
                with self.assertRaises(BadWindow):
                    turns_for(wedge, low=low, high=high)


class ResolvedTest(unittest.TestCase):
    check_turns = WindowTest.check_turns

    def check(self, exchange, low=None, high=None):
        course, turns = resolved(exchange, low=low, high=high)
        top = exchange.top
        self.check_turns(exchange.wedge, turns, low or ONE, high or top)
        self.assertIsInstance(course, Course)
        self.assertEqual(course.top, top)
        self.assertIs(course.keeps, True)
        done = course.made()
        for turn in turns:
            done = done >> turn.on(top)
        self.assertEqual(done, exchange)
        self.assertEqual(resolved(exchange, low=low, high=high), (course, turns))
        return course, turns

    def test_windows(self):
        rng = random.Random(4)
        for many in (2, 3, 4, 5):
            for _ in range(3):
                exchange = some_exchange(rng, many)
                course, turns = self.check(exchange)
                top = exchange.top
                self.assertEqual(resolved(exchange, low=ONE), (course, turns))
                self.assertEqual(resolved(exchange, high=top), (course, turns))
                self.assertEqual(resolved(exchange, low=None, high=None), (course, turns))
                self.check(exchange, low=Ratio(66, 65), high=Ratio(21, 20))
                self.check(exchange, low=top // Ratio(50, 49), high=top)

    def test_great_numbers(self):
        for exchange in (fold(TWO, Ratio(3, 2)).times(60), fold(Ratio(4), Ratio(15)).times(-11)):
            self.check(exchange)
            self.check(exchange, Ratio(3, 2), Ratio(7, 4))

    def test_narrow(self):
        for exchange in (fold(TWO, Ratio(3, 2)), Turn(ONE, Ratio(9, 8), Ratio(10, 9)).on(TWO), still(TWO)):
            self.check(exchange, ONE, NARROW)
            self.check(exchange, TWO // NARROW, TWO)
        both = Turn(ONE, Ratio(9, 8), Ratio(10, 9)).on(Ratio(4)) >> Turn(TWO, Ratio(7, 5), Ratio(11, 10)).on(Ratio(4))
        self.check(both, Ratio(3), Ratio(3) * NARROW)

    def test_flat(self):
        fair = Swap(ONE, Ratio(3, 2), Ratio(9, 8)).on(TWO)
        course, turns = self.check(fair, ONE, NARROW)
        self.assertEqual(turns, [])
        self.assertEqual(resolved(exchange=fair, low=None, high=Ratio(3, 2))[1], [])

    def test_no_windows(self):
        for exchange in (still(TWO), fold(TWO, Ratio(3, 2))):
            beyond = [(ONE, Ratio(3)), (Ratio(3), Ratio(4)), (TWO, None), (None, ONE), (None, Ratio(1, 2)), (Ratio(5), None)]
            for low, high in window_errors() + beyond:
                with self.assertRaises(BadWindow):
                    resolved(exchange, low=low, high=high)


class NoFewerTest(unittest.TestCase):
    def test_zeros(self):
        rng = random.Random(5)
        for many in (0, 1, 2):
            for _ in range(8):
                top = Ratio(4)
                done = still(top)
                for _ in range(many):
                    while True:
                        turn = Turn(ONE * rng.choice(INTERVALS), rng.choice(INTERVALS), some_length(rng, 1))
                        if not top.below(turn.end):
                            break
                    done = done >> some_swap(rng, top).on(top) >> turn.on(top) >> some_swap(rng, top).on(top)
                wedge = done.wedge
                self.assertLessEqual(wedge.owed, many)
                for more in range(2 * many + 1, 7):
                    for primes in combinations(PRIMES, more):
                        self.assertEqual(pfaffian(wedge, list(primes)), 0)
                        self.assertEqual(determinant(square_at(wedge, list(primes))), 0)
                course, turns = resolved(done)
                self.assertLessEqual(len(turns), many)
                if many == 0:
                    self.assertEqual(course_for(done).made(), course.made())


if __name__ == "__main__":
    unittest.main()
