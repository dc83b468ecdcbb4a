"""Promises 57, 58, 59 and 72: partial exchanges, and the exchanges that complete them."""

import random
import unittest

from tests.samples import (
    INTERVALS, ONE, TWO, any_values, cut_rows, fraction, image_by_rows, is_exchange_of, some_exchange, some_tones,
)
from turnsleft.errors import BadRow, BadTop, NotFair, NothingLeft, OffLine, Overlap
from turnsleft.exchanges import Exchange
from turnsleft.making import course_between
from turnsleft.moves import arranged, fold, still
from turnsleft.nearby import exchange_with
from turnsleft.partials import Partial
from turnsleft.ratios import PRIMES, Ratio, multiplied
from turnsleft.wedges import Wedge, nothing

NINE = Ratio(9, 8)
THIRD = Ratio(5, 4)
FOURTH = Ratio(4, 3)
FIFTH = Ratio(3, 2)


def some_rows(rng, exchange):
    """Some of the rows of an exchange, cut and in any order."""
    rows = cut_rows(rng, exchange.rows())
    return [row for row in rows if rng.random() < 0.5]


def free_of(tone, gaps):
    """How much of gaps lies below a tone that lies in one of them."""
    below = 1
    for start, length in gaps:
        if fraction(start) <= fraction(tone) < fraction(start * length):
            return below * fraction(tone) / fraction(start)
        if fraction(start * length) <= fraction(tone):
            below = below * fraction(length)
    return None


def places_of(exchange):
    """Pairs of primes and numbers of the table."""
    return [(p, q, exchange.wedge.at(p, q)) for p in PRIMES for q in PRIMES if p < q]


class ToldTest(unittest.TestCase):
    def test_joined(self):
        rows = [(FIFTH, FOURTH // NINE, ONE), (NINE, THIRD // NINE, ONE), (ONE, NINE, ONE)]
        partial = Partial(TWO, rows)
        self.assertEqual(partial.top, TWO)
        self.assertEqual(partial.rows(), [(ONE, THIRD, ONE), (FIFTH, FOURTH // NINE, ONE)])
        self.assertEqual((len(partial), repr(partial)), (2, "Partial(2 rows)"))
        last = (FIFTH * FOURTH // NINE, NINE)
        self.assertEqual(partial.gaps(), ([(THIRD, FIFTH // THIRD), last], [(THIRD, FIFTH // THIRD), last]))
        self.assertIs(partial.whole, False)
        # one factor, but not side by side; and side by side with different factors
        self.assertEqual(len(Partial(TWO, [(ONE, NINE, ONE), (THIRD, NINE, ONE)])), 2)
        self.assertEqual(len(Partial(TWO, [(ONE, NINE, NINE), (NINE, NINE, ONE // NINE)])), 2)

    def test_without_rows(self):
        for rows in ([], ()):
            partial = Partial(TWO, rows)
            self.assertEqual((partial.rows(), len(partial), repr(partial)), ([], 0, "Partial(0 rows)"))
            self.assertEqual(partial.gaps(), ([(ONE, TWO)], [(ONE, TWO)]))
            self.assertIs(bool(partial), True)
            self.assertEqual(partial.completed(), still(TWO))
            self.assertTrue(partial.kept_by(fold(TWO, FIFTH)))

    def test_whole(self):
        partial = Partial(TWO, [(FOURTH, FIFTH, Ratio(3, 4)), (ONE, FOURTH, FIFTH)])
        self.assertIs(partial.whole, True)
        self.assertEqual(partial.gaps(), ([], []))
        self.assertEqual(partial.completed(), fold(TWO, FIFTH))
        self.assertTrue(partial.kept_by(fold(TWO, FIFTH)))
        self.assertFalse(partial.kept_by(still(TWO)))

    def test_gaps_of_images(self):
        partial = Partial(TWO, [(ONE, NINE, FOURTH), (FIFTH, NINE, ONE // FIFTH)])
        homes, images = partial.gaps()
        self.assertEqual(homes, [(NINE, FOURTH), (Ratio(27, 16), Ratio(32, 27))])
        self.assertEqual(images, [(NINE, Ratio(32, 27)), (FIFTH, FOURTH)])
        self.assertEqual(multiplied([length for _, length in homes]), multiplied([length for _, length in images]))

    def test_equal(self):
        one = Partial(TWO, [(ONE, NINE, ONE), (NINE, NINE, ONE)])
        self.assertTrue(one == Partial(TWO, [(ONE, NINE * NINE, ONE)]))
        self.assertFalse(one == Partial(TWO, [(ONE, NINE, ONE)]))
        self.assertFalse(one == Partial(Ratio(3), [(ONE, NINE * NINE, ONE)]))
        self.assertFalse(Partial(TWO, [(ONE, TWO, ONE)]) == still(TWO))
        for value in any_values():
            self.assertFalse(one == value)

    def test_new_lists(self):
        rows = [(ONE, NINE, ONE)]
        partial = Partial(TWO, rows)
        rows.append((NINE, NINE, ONE))
        partial.rows().append(None)
        for gaps in partial.gaps():
            gaps.clear()
        self.assertEqual(partial.rows(), [(ONE, NINE, ONE)])
        self.assertEqual(partial.gaps(), ([(NINE, TWO // NINE)], [(NINE, TWO // NINE)]))

    def test_kept_by(self):
        rng = random.Random(1)
        for _ in range(30):
            exchange = some_exchange(rng, rng.randint(1, 6))
            partial = Partial(exchange.top, some_rows(rng, exchange))
            self.assertIs(partial.kept_by(exchange), True)
            self.assertIs(partial.kept_by(still(exchange.top * TWO)), False)
            same = all(factor == ONE for _, _, factor in partial.rows())
            self.assertIs(partial.kept_by(still(exchange.top)), same)
        # only a part of a row is done
        partial = Partial(TWO, [(ONE, FIFTH, ONE)])
        self.assertFalse(partial.kept_by(Exchange(TWO, [
            (ONE, NINE, ONE), (NINE, FOURTH, FOURTH), (FIFTH, FOURTH, FOURTH.power(-1))])))
        for value in any_values():
            if not isinstance(value, Exchange):
                self.assertIs(partial.kept_by(value), False)

    def test_with_row(self):
        partial = Partial(TWO, [(ONE, NINE, FOURTH), (THIRD, NINE, ONE // THIRD)])
        more = partial.with_row(NINE, THIRD // NINE, FOURTH)
        self.assertEqual(more.rows()[0], (ONE, THIRD, FOURTH))
        self.assertEqual((len(more), len(partial)), (2, 2))
        self.assertEqual(partial.with_row(factor=FOURTH, start=NINE, length=THIRD // NINE), more)
        for start, length, factor, error, told in [
            (NINE, TWO, ONE, OffLine, {"at": 2}), (NINE, NINE, TWO, OffLine, {"at": 2}),
            (ONE, NINE, THIRD, Overlap, {"one": 0, "other": 2}), (THIRD, NINE, TWO // NINE // THIRD, Overlap, {"one": 1, "other": 2}),
            (FIFTH, NINE, FOURTH // FIFTH, Overlap, {"one": 0, "other": 2}),
            (None, NINE, ONE, BadRow, {"at": 2}), (ONE, ONE, ONE, BadRow, {"at": 2}), (ONE, NINE, 1, BadRow, {"at": 2}),
        ]:
            with self.assertRaises(error) as caught:
                partial.with_row(start, length, factor)
            for name, value in told.items():
                self.assertEqual(getattr(caught.exception, name), value)


class WrongTest(unittest.TestCase):
    def check(self, error, top, rows, **told):
        with self.assertRaises(error) as caught:
            Partial(top, rows)
        for name, value in told.items():
            self.assertEqual(getattr(caught.exception, name), value)

    def test_tops_and_rows(self):
        for value in [*any_values(), ONE, Ratio(1, 2)]:
            if not (isinstance(value, Ratio) and ONE.below(value)):
                self.check(BadTop, value, None)
            if not isinstance(value, (list, tuple)):
                self.check(BadRow, TWO, value, at=-1)
            if value != (ONE, TWO, ONE):
                self.check(BadRow, TWO, [(ONE, NINE, ONE), value, None], at=1)
        self.check(BadRow, TWO, [[ONE, NINE, ONE]], at=0)
        self.check(BadRow, TWO, [(ONE, ONE, ONE)], at=0)
        self.check(BadRow, TWO, [(ONE, NINE, True)], at=0)
        self.check(BadRow, TWO, [(ONE, NINE, ONE, ONE)], at=0)

    def test_off_line(self):
        good = (ONE, NINE, ONE)
        for row in [(FIFTH, FIFTH, ONE), (ONE, NINE, TWO), (Ratio(1, 2), NINE, TWO), (NINE, NINE, Ratio(1, 2))]:
            self.check(OffLine, TWO, [good, good, row, row], at=2)
            # a row that is none counts ahead of it
            self.check(BadRow, TWO, [row, None], at=1)

    def test_overlap(self):
        low = (ONE, NINE, ONE)
        self.check(Overlap, TWO, [low, (THIRD, NINE, ONE), (THIRD, NINE, ONE), low], one=0, other=3)
        # the images meet
        self.check(Overlap, TWO, [(THIRD, NINE, ONE), low, (FIFTH, NINE, ONE // FIFTH)], one=1, other=2)
        self.check(Overlap, TWO, [(ONE, TWO, ONE), (ONE, TWO, ONE)], one=0, other=1)


class CompletedTest(unittest.TestCase):
    def check_in_order(self, partial, known):
        whole = partial.completed()
        self.assertTrue(is_exchange_of(whole, partial.top))
        self.assertTrue(partial.kept_by(whole))
        self.assertEqual(partial.completed(wedge=None), whole)
        self.assertEqual(partial.completed(wedge=whole.wedge), whole)
        homes, images = partial.gaps()
        for tone in [*some_tones(random.Random(4), partial.top), *[start.as_tone() for start, _ in homes]]:
            image = image_by_rows(known, tone)
            if image is None:
                self.assertEqual(free_of(tone, homes), free_of(whole(tone), images))
                self.assertIsNotNone(free_of(tone, homes))
            else:
                self.assertEqual(whole(tone), image)

    def test_in_order(self):
        rng = random.Random(5)
        for _ in range(40):
            exchange = some_exchange(rng, rng.randint(1, 8))
            rows = some_rows(rng, exchange)
            self.check_in_order(Partial(exchange.top, rows), rows)
            # all rows
            partial = Partial(exchange.top, cut_rows(rng, exchange.rows()))
            self.assertEqual(partial.completed(), exchange)
            self.assertTrue(partial.whole)

    def test_gaps_of_other_lengths(self):
        # three gaps at home and two of the images, none of which are equal
        rows = [(NINE, NINE, THIRD // NINE), (Ratio(27, 16), NINE, Ratio(16, 27))]
        partial = Partial(TWO, rows)
        homes, images = partial.gaps()
        self.assertEqual((len(homes), len(images)), (3, 2))
        self.check_in_order(partial, rows)

    def check_wedge(self, partial, wedge):
        whole = partial.completed(wedge=wedge)
        self.assertTrue(is_exchange_of(whole, partial.top))
        self.assertEqual(whole.wedge, wedge)
        self.assertTrue(partial.kept_by(whole))
        self.assertEqual(partial.completed(wedge=wedge), whole)

    def test_any_wedge(self):
        rng = random.Random(6)
        for _ in range(15):
            exchange = some_exchange(rng, rng.randint(2, 6))
            partial = Partial(exchange.top, some_rows(rng, exchange))
            if partial.whole:
                continue
            self.check_wedge(partial, exchange.wedge)
            self.check_wedge(partial, nothing())
            self.check_wedge(partial, Wedge([0] * 15, [rng.randint(0, 1) for _ in range(6)]))
            self.check_wedge(partial, Wedge([rng.randint(-4, 4) for _ in range(15)], [rng.randint(0, 1) for _ in range(6)]))

    def test_wedge_with_great_numbers(self):
        rng = random.Random(7)
        partial = Partial(TWO, [(ONE, FOURTH, FIFTH)])
        self.check_wedge(partial, Wedge([rng.choice([-60, 60, 59]) for _ in range(15)], [1] * 6))
        self.check_wedge(Partial(TWO, []), Wedge([60] * 15))

    def test_narrow_gap(self):
        gap = Ratio(1001, 1000)
        partial = Partial(TWO, [(ONE, TWO // gap, gap)])
        self.check_wedge(partial, Wedge([1, 0, 0, 0, 0, 0, 0, 0, 0, -1, 0, 0, 0, 0, 0], [0, 0, 0, 0, 0, 1]))
        # of a narrow gap and a wide one the wide one is taken, so that no great powers are needed
        narrow = Ratio.of_powers([-1054, 665, 0, 0, 0, 0])
        for rows in ([(narrow, FIFTH // narrow, ONE)], [(FOURTH, FIFTH // narrow, ONE)]):
            partial = Partial(TWO, rows)
            self.check_wedge(partial, Wedge([3] * 15))
            whole = partial.completed(wedge=Wedge([3] * 15))
            self.assertLess(max(abs(power) for row in whole.rows() for power in row[1].powers()), 5000)

    def test_nothing_left(self):
        for exchange in (fold(TWO, FIFTH), still(TWO), arranged([NINE, THIRD, NINE], [2, 1, 0])):
            partial = Partial(exchange.top, exchange.rows())
            self.assertEqual(partial.completed(wedge=exchange.wedge), exchange)
            bit = Wedge([0] * 15, [0, 0, 1, 0, 0, 0])
            for other in (exchange.wedge + bit, exchange.wedge + Wedge([1] * 15), Wedge([2] * 15)):
                self.assertRaises(NothingLeft, partial.completed, wedge=other)


class TwoWaysTest(unittest.TestCase):
    def test_led_to_one_another(self):
        rng = random.Random(8)
        led = 0
        for _ in range(14):
            exchange = some_exchange(rng, rng.randint(2, 5))
            partial = Partial(exchange.top, some_rows(rng, exchange))
            whole = partial.completed(wedge=exchange.wedge)
            self.assertEqual(whole.wedge, exchange.wedge)
            for start, length, factor in partial.rows():
                self.assertEqual(whole.image(start, length), [(start * factor, length)])
            course = course_between(exchange, whole)
            self.assertEqual(exchange >> course.made(), whole)
            led += 0 if whole == exchange else 1
        self.assertGreater(led, 3)

    def test_other_tables(self):
        rng = random.Random(9)
        for _ in range(10):
            exchange = some_exchange(rng, rng.randint(2, 5))
            partial = Partial(exchange.top, some_rows(rng, exchange)[1:])
            if partial.whole:
                continue
            numbers = [0] * 15
            numbers[rng.randrange(15)] = rng.choice([-2, 1])
            numbers[rng.randrange(15)] = 1
            other = partial.completed(wedge=exchange.wedge + Wedge(numbers))
            with self.assertRaises(NotFair) as caught:
                course_between(exchange, other)
            pairs = zip(places_of(exchange), places_of(other))
            first = min((one[0], one[1]) for one, two in pairs if one != two)
            self.assertEqual((caught.exception.first, caught.exception.second), first)

    def test_bits_are_free(self):
        # another bit is no other table, so that a swap leads there
        exchange = fold(TWO, FIFTH)
        partial = Partial(TWO, [(FOURTH, NINE, Ratio(3, 4))])
        other = partial.completed(wedge=exchange.wedge + Wedge([0] * 15, [1, 0, 0, 0, 1, 0]))
        self.assertEqual(exchange >> course_between(exchange, other).made(), other)
        self.assertEqual(exchange_with(TWO, exchange.wedge).wedge, exchange.wedge)


if __name__ == "__main__":
    unittest.main()
