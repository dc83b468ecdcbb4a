"""Promises 73, 74, 75 and 94: lines with gaps, joined and parted again."""

import random
import unittest

from tests.samples import (
    INTERVALS, ONE, TWO, any_values, cut_rows, fraction, image_by_rows, shuffled, some_exchange, some_lengths,
    some_ratio, tone,
)
from turnsleft.errors import BadOrder, BadRow, NotFilled, NotOnLine, OffLine, OtherLine, Overlap
from turnsleft.exchanges import Exchange
from turnsleft.folds import fold_for
from turnsleft.lines import Lines
from turnsleft.making import course_for
from turnsleft.moves import arranged, fold, still
from turnsleft.ratios import PRIMES, Ratio, multiplied
from turnsleft.roots import root, root_numbers
from turnsleft.sums import pair_sum, straight_matrix, turned_pairs
from turnsleft.told import Told

NINE = Ratio(9, 8)
FIFTH = Ratio(3, 2)
FOURTH = Ratio(4, 3)


def some_starts(rng, lengths):
    """Starts at which stretches with these lengths do not meet; some of them touch, some start below 1."""
    starts = []
    end = some_ratio(rng, 1)
    for length in lengths:
        start = end * rng.choice([ONE, NINE, Ratio(7, 5), TWO])
        starts.append(start)
        end = start * length
    return starts


def some_lines(rng, exchange, many):
    """Lines whose lengths multiply to the top of an exchange, cut at some of its rows or elsewhere."""
    cuts = [start for start, _, _ in exchange.rows()[1:]]
    cuts = cuts + [length for length in INTERVALS if length.below(exchange.top)]
    chosen = sorted({cut.as_tone() for cut in rng.sample(cuts, min(many - 1, len(cuts)))}, key=fraction)
    marks = [ONE, *[Ratio(*cut) for cut in chosen if cut != (1, 1)], exchange.top]
    lengths = [upper // lower for lower, upper in zip(marks, marks[1:])]
    return Lines(*zip(some_starts(rng, lengths), lengths))


def tones_of(lines):
    """Tones of lines: their starts, tones in the middle and just below their ends."""
    tones = []
    for start, length in lines.stretches():
        low, high = fraction(start), fraction(start * length)
        tones.extend([tone(low), tone((low + high) / 2), tone(high - (high - low) / 10**9)])
    return tones


class ToldTest(unittest.TestCase):
    def test_places(self):
        lines = Lines((Ratio(1, 2), FIFTH), (ONE, NINE), (Ratio(10), FOURTH))
        self.assertEqual(lines.top, FIFTH * NINE * FOURTH)
        self.assertEqual(lines.stretches(), [(Ratio(1, 2), FIFTH), (ONE, NINE), (Ratio(10), FOURTH)])
        self.assertEqual((len(lines), repr(lines), bool(lines)), (3, "Lines(3 lines)", True))
        found = [lines.place(value) for value in [(1, 2), (5, 8), (1, 1), (17, 16), (10, 1), (13, 1)]]
        self.assertEqual(found, [(1, 1), (5, 4), (3, 2), (51, 32), (27, 16), (351, 160)])
        self.assertEqual(lines.back(tone=(3, 2)), (1, 1))
        self.assertEqual(lines.back((5, 4)), (5, 8))

    def test_there_and_back(self):
        rng = random.Random(1)
        for many in (1, 2, 3, 4, 5):
            lengths = some_lengths(rng, many)
            lines = Lines(*zip(some_starts(rng, lengths), lengths))
            self.assertEqual((lines.top, len(lines)), (multiplied(lengths), many))
            ahead = ONE
            places = []
            for start, length in lines.stretches():
                for value in tones_of(Lines((start, length))):
                    place = lines.place(value)
                    self.assertEqual(place, tone(fraction(value) / fraction(start) * fraction(ahead)))
                    self.assertEqual(lines.back(place), value)
                    places.append(fraction(place))
                ahead = ahead * length
            self.assertEqual(places, sorted(places))

    def test_no_tones(self):
        lines = Lines((FIFTH, NINE), (Ratio(3), FOURTH))
        for value in [*any_values(), (1, 1), (27, 16), (2, 1), (4, 1), [3, 2], (6, 4), FIFTH]:
            with self.assertRaises(NotOnLine) as caught:
                lines.place(value)
            self.assertIs(caught.exception.tone, value)
        for value in [*any_values(), (1, 2), (3, 2), (4, 1), [9, 8], (18, 16)]:
            with self.assertRaises(NotOnLine) as caught:
                lines.back(value)
            self.assertIs(caught.exception.tone, value)
        self.assertEqual(lines.back((1, 1)), (3, 2))

    def test_wrong_stretches(self):
        with self.assertRaises(BadRow) as caught:
            Lines()
        self.assertEqual(caught.exception.at, 0)
        good = [(Ratio(4).power(at), TWO) for at in range(6)]
        self.assertEqual(len(Lines(*good[:5])), 5)
        for more in ([good[5]], [None], [good[5], good[5]]):
            with self.assertRaises(BadRow) as caught:
                Lines(*good[:5], *more)
            self.assertEqual(caught.exception.at, 5)
        for value in [*any_values(), [ONE, TWO], (ONE, ONE), (ONE, NINE, ONE), (1, TWO), (ONE, 2), (ONE, Ratio(1, 2))]:
            for at in range(3):
                with self.assertRaises(BadRow) as caught:
                    Lines(*good[:at], value, None)
                self.assertEqual(caught.exception.at, at)

    def test_overlap(self):
        for stretches, at in [
            ([(ONE, TWO), (FIFTH, TWO)], 1), ([(ONE, TWO), (TWO, NINE), (TWO, NINE)], 2), ([(TWO, NINE), (ONE, NINE)], 1),
            ([(ONE, NINE), (ONE, NINE), (ONE, NINE)], 1), ([(ONE, NINE), (NINE, NINE), (FIFTH, NINE), (FOURTH, NINE)], 3),
        ]:
            with self.assertRaises(Overlap) as caught:
                Lines(*stretches)
            self.assertEqual((caught.exception.one, caught.exception.other), (at - 1, at))
            # a stretch that is none counts ahead of it
            with self.assertRaises(BadRow):
                Lines(*stretches, None)
        self.assertEqual(len(Lines((ONE, TWO), (TWO, TWO))), 2)

    def test_moved(self):
        lines = Lines((ONE, NINE), (FIFTH, FOURTH))
        moved = lines.moved([Ratio(1, 7), ONE])
        self.assertEqual(moved.stretches(), [(Ratio(1, 7), NINE), (ONE, FOURTH)])
        self.assertEqual(moved.moved(starts=(ONE, FIFTH)), lines)
        self.assertEqual(lines.moved((ONE, NINE)).stretches(), [(ONE, NINE), (NINE, FOURTH)])
        for value in [*any_values(), [ONE], [ONE, FIFTH, TWO], ()]:
            if isinstance(value, (list, tuple)) and len(value) == 2:
                continue
            self.assertRaises(BadOrder, lines.moved, value)
        for starts, at in [([None, None], 0), ([ONE, (3, 2)], 1), ((ONE, 2), 1), ([True, ONE], 0)]:
            with self.assertRaises(BadRow) as caught:
                lines.moved(starts)
            self.assertEqual(caught.exception.at, at)
        with self.assertRaises(Overlap) as caught:
            lines.moved([ONE, ONE])
        self.assertEqual((caught.exception.one, caught.exception.other), (0, 1))

    def test_equal(self):
        lines = Lines((ONE, NINE), (FIFTH, FOURTH))
        self.assertTrue(lines == Lines((ONE, NINE), (FIFTH, FOURTH)))
        self.assertFalse(lines == lines.moved([ONE, NINE]))
        self.assertFalse(lines == Lines((ONE, NINE)))
        self.assertFalse(lines == Lines((ONE, NINE), (FIFTH, NINE)))
        for value in any_values():
            self.assertFalse(lines == value)
        lines.stretches().clear()
        self.assertEqual(len(lines.stretches()), 2)


class JoinedTest(unittest.TestCase):
    def check_parted(self, lines, rows, exchange):
        """The rows lead as the exchange does, are ascending, and none is longer."""
        for value in tones_of(lines):
            self.assertEqual(lines.place(image_by_rows(rows, value)), exchange(lines.place(value)))
        starts = [fraction(start) for start, _, _ in rows]
        self.assertEqual(starts, sorted(starts))
        inner = [start for start, _ in lines.stretches()]
        for (start, length, factor), (begin, _, other) in zip(rows, rows[1:]):
            joined = start * length == begin and factor == other
            self.assertFalse(joined and begin not in inner and begin * other not in inner)

    def test_from_place_to_place(self):
        rng = random.Random(2)
        for _ in range(30):
            exchange = some_exchange(rng, rng.randint(1, 7))
            lines = some_lines(rng, exchange, rng.randint(1, 5))
            rows = lines.parted(exchange)
            self.check_parted(lines, rows, exchange)
            self.assertEqual(lines.joined(rows), exchange)
            self.assertEqual(lines.joined(tuple(cut_rows(rng, rows))), exchange)
            other = lines.moved(some_starts(rng, [length for _, length in lines.stretches()]))
            moved = other.parted(exchange)
            self.check_parted(other, moved, exchange)
            self.assertEqual(other.joined(rows=moved), exchange)
            self.assertEqual(len(moved), len(rows))
            self.assertEqual([length for _, length, _ in moved], [length for _, length, _ in rows])
            for value in tones_of(other):
                home = lines.back(other.place(value))
                image = lines.back(other.place(image_by_rows(moved, value)))
                self.assertEqual(image_by_rows(rows, home), image)

    def test_touching_lines(self):
        # the same tones, but as two lines
        one, two = Lines((ONE, TWO)), Lines((ONE, FIFTH), (FIFTH, FOURTH))
        self.assertEqual(one.parted(still(TWO)), [(ONE, TWO, ONE)])
        self.assertEqual(two.parted(still(TWO)), [(ONE, FIFTH, ONE), (FIFTH, FOURTH, ONE)])
        self.assertEqual(two.joined([(ONE, FIFTH, ONE), (FIFTH, FOURTH, ONE)]), still(TWO))
        with self.assertRaises(OffLine) as caught:
            two.joined([(ONE, TWO, ONE)])
        self.assertEqual(caught.exception.at, 0)
        # the image lies on two lines
        shifted = fold(TWO, FOURTH)
        self.assertEqual(one.parted(shifted), [(ONE, FIFTH, FOURTH), (FIFTH, FOURTH, Ratio(2, 3))])
        self.assertEqual(two.parted(shifted), [(ONE, NINE, FOURTH), (NINE, FOURTH, FOURTH), (FIFTH, FOURTH, Ratio(2, 3))])

    def test_rows_of_one_line(self):
        lines = Lines((Ratio(7), TWO))
        self.assertEqual(lines.parted(fold(TWO, FIFTH)), [(Ratio(7), FOURTH, FIFTH), (Ratio(28, 3), FIFTH, Ratio(3, 4))])

    def test_wrong_rows(self):
        lines = Lines((ONE, FIFTH), (TWO, FOURTH))
        good = (ONE, NINE, ONE)
        for value in any_values():
            if not isinstance(value, (list, tuple)):
                with self.assertRaises(BadRow) as caught:
                    lines.joined(value)
                self.assertEqual(caught.exception.at, -1)
            if value != (ONE, TWO, ONE):
                with self.assertRaises(BadRow) as caught:
                    lines.joined([(ONE, TWO, TWO), value, None])
                self.assertEqual(caught.exception.at, 1)
        for row in [(NINE, FIFTH, ONE), (FIFTH, NINE, ONE), (FIFTH, NINE, FOURTH), (ONE, NINE, Ratio(7, 5)), (ONE, FIFTH, NINE), (TWO, NINE, TWO)]:
            with self.assertRaises(OffLine) as caught:
                lines.joined([good, good, row, row])
            self.assertEqual(caught.exception.at, 2)
        for rows, pair in [
            ([good, (TWO, NINE, ONE), good], (0, 2)), ([(TWO, NINE, ONE), good, (FOURTH, NINE, FIFTH)], (0, 2)),
            ([good, (NINE, NINE, ONE), (TWO, NINE, Ratio(1, 2)), good], (0, 2)),
        ]:
            with self.assertRaises(Overlap) as caught:
                lines.joined(rows)
            self.assertEqual((caught.exception.one, caught.exception.other), pair)
        for rows, missing in [([good, (TWO, FOURTH, ONE)], FOURTH), ([], TWO), ([(ONE, FOURTH, TWO)], FIFTH)]:
            with self.assertRaises(NotFilled) as caught:
                lines.joined(rows)
            self.assertEqual(caught.exception.missing, missing)

    def test_other_line(self):
        lines = Lines((ONE, FIFTH), (TWO, FOURTH))
        self.assertRaises(OtherLine, lines.parted, still(Ratio(3)))
        self.assertEqual(len(lines.parted(exchange=still(TWO))), 2)


class SumsTest(unittest.TestCase):
    def test_gaps_mean_nothing(self):
        rng = random.Random(3)
        for _ in range(30):
            exchange = some_exchange(rng, rng.randint(1, 7))
            lines = some_lines(rng, exchange, rng.randint(1, 5))
            other = lines.moved(some_starts(rng, [length for _, length in lines.stretches()]))
            one, two = lines.parted(exchange), other.parted(exchange)
            order = shuffled(rng, len(two))
            for rows in (one, two, [two[at] for at in order]):
                self.assertEqual(pair_sum(rows), exchange.wedge)
                self.assertEqual(straight_matrix(rows), straight_matrix(exchange.rows()))
                wedge = exchange.wedge
                for p, row in enumerate(straight_matrix(rows)):
                    for q, number in enumerate(row):
                        self.assertEqual(number, wedge.at(PRIMES[p], PRIMES[q]))
            self.assertEqual(list(turned_pairs(one)), list(turned_pairs(two)))
            pairs = list(turned_pairs([two[at] for at in order]))
            self.assertEqual(pairs, sorted(pairs))
            images = [fraction(start * factor) for start, _, factor in one]
            many = len([None for at in range(len(one)) for behind in range(at) if images[behind] > images[at]])
            self.assertEqual(len(pairs), many)


class AsOneTest(unittest.TestCase):
    def test_owed_told_and_made(self):
        rng = random.Random(4)
        for _ in range(8):
            exchange = some_exchange(rng, 4)
            lines = some_lines(rng, exchange, 3)
            other = lines.moved(some_starts(rng, [length for _, length in lines.stretches()]))
            joined = other.joined(other.parted(exchange))
            self.assertEqual((joined.owed, joined.wedge), (exchange.owed, exchange.wedge))
            told = Told(exchange)
            self.assertEqual(told, Told(joined))
            self.assertTrue(told.makes(joined.times(3)))
            self.assertEqual(told.done(told.counts_for(joined)).wedge.pairs(), exchange.wedge.pairs())
            self.assertEqual(root_numbers(joined), root_numbers(exchange))
            found, course = root(joined, max([1, *root_numbers(joined)]))
            self.assertEqual(found.times(max([1, *root_numbers(joined)])) >> course.made(), exchange)

    def test_swaps_of_a_course(self):
        rng = random.Random(5)
        for lengths, order in [([NINE] * 4, [3, 1, 0, 2]), ([NINE, FOURTH, FOURTH, NINE], [1, 0, 3, 2])]:
            exchange = arranged(lengths, order)
            course = course_for(exchange)
            self.assertEqual(course.made(), exchange)
            wide = course.wide()
            lines = some_lines(rng, wide, 4)
            done = still(lines.top)
            for swap in course.swaps():
                done = done >> lines.joined(lines.parted(swap.on(course.room)))
            self.assertEqual(done, wide)
            parted = lines.parted(wide)
            self.assertTrue(pair_sum(parted).flat)
        self.assertEqual(fold_for(Lines((ONE, TWO)).joined(fold(TWO, FIFTH).rows())), fold_for(fold(TWO, FIFTH)))
        self.assertIsInstance(Lines((ONE, TWO)).joined([(ONE, TWO, ONE)]), Exchange)


if __name__ == "__main__":
    unittest.main()
