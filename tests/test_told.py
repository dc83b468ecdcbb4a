"""Promises 49 to 53 and 55: what told exchanges make, what bars them, commutators, courses; readings and sorts."""

import random
import unittest
from collections import Counter

from tests.samples import ONE, TWO, any_values, shuffled, some_lengths, some_swap
from turnsleft.courses import Course
from turnsleft.errors import BadRow, OtherLine, Unfit, Unmade
from turnsleft.exchanges import Exchange
from turnsleft.fitting import fitted
from turnsleft.lattices import Lattice
from turnsleft.moves import Swap, Turn, arranged, commutator, fold, still
from turnsleft.nearby import exchange_with
from turnsleft.ratios import Ratio
from turnsleft.readings import Reading
from turnsleft.sorting import same_sort, sorts
from turnsleft.told import Told
from turnsleft.wedges import Wedge, nothing, wedge_of

FIFTH = fold(TWO, Ratio(3, 2))
THIRD = fold(TWO, Ratio(5, 4))
SWAP = Swap(ONE, Ratio(3, 2), Ratio(9, 8)).on(TWO)


def some_told(rng, many, commutators=False):
    """Told exchanges, and their lengths."""
    lengths = some_lengths(rng, 4)
    exchanges = [arranged(rng.sample(lengths, 4), shuffled(rng, 4)) for _ in range(many)]
    return Told(*exchanges, commutators=commutators), lengths


def summed(wedges, counts):
    """The sum of so many times each wedge."""
    total = nothing()
    for wedge, count in zip(wedges, counts):
        total = total + wedge * count
    return total


class MadeTest(unittest.TestCase):
    def check_made(self, told, exchange):
        self.assertIs(told.makes(exchange), True)
        self.assertIsNone(told.bar(exchange))
        counts = told.counts_for(exchange)
        self.assertIsInstance(counts, tuple)
        self.assertEqual(len(counts), len(told))
        whole = summed([own.wedge for own in told.exchanges()], counts)
        self.assertEqual(whole.pairs(), exchange.wedge.pairs())
        if told.commutators:
            self.assertEqual(whole.bits(), exchange.wedge.bits())
        self.assertEqual(told.counts_for(exchange), counts)

    def check_barred(self, told, exchange):
        self.assertIs(told.makes(exchange), False)
        with self.assertRaises(Unmade) as caught:
            told.counts_for(exchange)
        with self.assertRaises(Unmade) as second:
            told.completed(exchange)
        for reading in (told.bar(exchange), caught.exception.reading, second.exception.reading):
            self.assertIsInstance(reading, Reading)
            self.assertGreaterEqual(reading.modulus, 2)
            for own in told.exchanges():
                self.assertEqual(reading.value_of(own), 0)
            self.assertNotEqual(reading.value_of(exchange), 0)
            if not told.commutators:
                self.assertEqual(reading.bits(), (0,) * 6)
        self.assertEqual(told.bar(exchange), told.bar(exchange))

    def check(self, told, exchange):
        if told.makes(exchange):
            self.check_made(told, exchange)
        else:
            self.check_barred(told, exchange)

    def test_makes(self):
        rng = random.Random(1)
        for many in (1, 2, 3, 5):
            for _ in range(5):
                told, lengths = some_told(rng, many)
                top = told.top
                done = still(top)
                for _ in range(4):
                    done = done >> rng.choice(told.exchanges()).times(rng.choice([-2, -1, 1]))
                    if not top.below(TWO):
                        done = done >> some_swap(rng, TWO).on(top)
                self.check_made(told, done)
                self.check_made(told, still(top))
                self.check(told, arranged(lengths, shuffled(rng, 4)))
                self.check(told, exchange_with(top, Wedge([rng.randint(-2, 2) for _ in range(15)])))

    def test_barred(self):
        self.check_barred(Told(FIFTH), THIRD)
        self.check_barred(Told(FIFTH.times(2)), FIFTH)
        self.check_barred(Told(FIFTH.times(6), FIFTH.times(10), THIRD), FIFTH)
        self.check_made(Told(FIFTH.times(6), FIFTH.times(10), FIFTH.times(15)), FIFTH)
        self.check_barred(Told(still(TWO)), FIFTH)
        self.check_made(Told(still(TWO)), SWAP)
        self.assertEqual(Told(FIFTH).bar(exchange=THIRD), Told(FIFTH).bar(THIRD))
        self.assertEqual(Told(FIFTH).counts_for(exchange=FIFTH.times(5)), (5,))
        self.assertIs(Told(FIFTH).makes(exchange=FIFTH), True)

    def test_with_commutators(self):
        self.check_barred(Told(FIFTH, commutators=True), FIFTH >> SWAP)
        self.check_made(Told(FIFTH), FIFTH >> SWAP)
        self.check_made(Told(FIFTH, SWAP, commutators=True), FIFTH >> SWAP)
        self.check_made(Told(FIFTH, SWAP, commutators=True), SWAP >> ~FIFTH)
        self.check_barred(Told(SWAP, commutators=True), SWAP >> Swap(ONE, Ratio(6, 5), Ratio(6, 5)).on(TWO))
        self.check_made(Told(FIFTH, commutators=True), FIFTH.times(3) >> commutator(FIFTH, THIRD))
        # twice anything has no bits
        self.check_made(Told(FIFTH, commutators=True), FIFTH.times(2) >> SWAP >> SWAP)
        self.check_barred(Told(still(TWO), commutators=True), SWAP)
        rng = random.Random(2)
        for many in (1, 2, 4):
            for _ in range(5):
                told, lengths = some_told(rng, many, True)
                self.check(told, arranged(lengths, shuffled(rng, 4)))
                for _ in range(2):
                    exchange = exchange_with(told.top, Wedge([0] * 15, [rng.randint(0, 1) for _ in range(6)]))
                    self.check(told, exchange)
                    self.check(told, told.done([rng.randint(-2, 2) for _ in range(many)]) >> exchange)

    def test_bars_with_bits(self):
        reading = Told(FIFTH, commutators=True).bar(SWAP)
        self.assertEqual(reading.bits()[0], 1)
        self.assertEqual(reading.modulus % 2, 0)

    def test_other_lines(self):
        told = Told(FIFTH)
        for exchange in (still(Ratio(4)), fold(Ratio(3), TWO), Turn(ONE, TWO, Ratio(3)).on(Ratio(6))):
            for method in (told.makes, told.bar, told.counts_for, told.completed):
                self.assertRaises(OtherLine, method, exchange)


class CompletedTest(unittest.TestCase):
    def check(self, told, exchange):
        counts, course = told.completed(exchange)
        self.assertEqual(counts, told.counts_for(exchange))
        self.assertIsInstance(course, Course)
        self.assertEqual(course.top, told.top)
        self.assertIs(course.keeps, True)
        self.assertEqual(told.done(counts) >> course.made(), exchange)
        if told.commutators:
            many = Counter(swap.length.text() for swap in course.swaps()).values()
            self.assertTrue(all(number % 2 == 0 for number in many))
        self.assertEqual(told.completed(exchange=exchange), (counts, course))

    def test_completed(self):
        rng = random.Random(3)
        for commutators in (False, True):
            for many in (1, 2, 3):
                for _ in range(4):
                    told, lengths = some_told(rng, many, commutators)
                    done = told.done([rng.randint(-2, 2) for _ in range(many)])
                    way = arranged(lengths, shuffled(rng, 4))
                    self.check(told, done)
                    self.check(told, way >> done >> ~way)
                    self.check(told, done >> commutator(way, told.exchanges()[0]))
        self.check(Told(FIFTH.times(6), FIFTH.times(10), FIFTH.times(15)), FIFTH)
        self.check(Told(FIFTH, SWAP, commutators=True), SWAP >> FIFTH)
        self.check(Told(FIFTH), SWAP >> FIFTH)

    def test_done(self):
        told = Told(FIFTH, SWAP, THIRD)
        self.assertEqual(told.done([2, 1, -1]), FIFTH >> FIFTH >> SWAP >> ~THIRD)
        self.assertEqual(told.done(counts=(0, 0, 0)), still(TWO))
        self.assertEqual(told.done([0, 0, 60]), THIRD.times(60))


class ToldTest(unittest.TestCase):
    def test_told(self):
        told = Told(FIFTH, THIRD)
        self.assertEqual((told.top, told.commutators, told.exchanges()), (TWO, False, [FIFTH, THIRD]))
        self.assertEqual((len(told), repr(told)), (2, "Told(2 exchanges)"))
        self.assertEqual(repr(Told(FIFTH)), "Told(1 exchanges)")
        self.assertTrue(told)
        self.assertIs(Told(FIFTH, commutators=True).commutators, True)
        told.exchanges().append(SWAP)
        told.spare().append(7)
        self.assertEqual((len(told), told.spare()), (2, []))

    def test_lattices(self):
        rng = random.Random(4)
        told, _ = some_told(rng, 3)
        wedges = [exchange.wedge for exchange in told.exchanges()]
        self.assertEqual(told.lattice(), Lattice(15, *[wedge.pairs() for wedge in wedges]))
        self.assertEqual(told.lattice().counts_for(wedges[2].pairs()), told.counts_for(told.exchanges()[2]))
        with_bits = Told(*told.exchanges(), commutators=True).lattice()
        self.assertEqual(with_bits.width, 21)
        rows = [[*wedge.pairs(), *wedge.bits()] for wedge in wedges]
        twos = [[0] * (15 + at) + [2] + [0] * (5 - at) for at in range(6)]
        self.assertEqual(with_bits, Lattice(21, *rows, *twos))
        # the vectors are given in this order
        self.assertEqual(len(with_bits.counts_for(rows[0])), 9)
        single = Told(SWAP, commutators=True).lattice()
        self.assertEqual(single.counts_for(twos[2]), (0, 0, 0, 1, 0, 0, 0))

    def test_equal(self):
        self.assertEqual(Told(FIFTH), Told(FIFTH >> SWAP))
        self.assertEqual(Told(FIFTH, THIRD), Told(THIRD, ~FIFTH, FIFTH.times(2)))
        self.assertNotEqual(Told(FIFTH), Told(THIRD))
        self.assertNotEqual(Told(FIFTH), Told(FIFTH, commutators=True))
        self.assertNotEqual(Told(FIFTH, commutators=True), Told(FIFTH >> SWAP, commutators=True))
        self.assertNotEqual(Told(still(TWO)), Told(still(Ratio(3))))
        for value in any_values():
            self.assertIs(Told(FIFTH) == value, False)

    def test_spare(self):
        self.assertEqual(Told(FIFTH).spare(), [])
        self.assertEqual(Told(still(TWO)).spare(), [0])
        self.assertEqual(Told(SWAP).spare(), [0])
        self.assertEqual(Told(SWAP, commutators=True).spare(), [])
        self.assertEqual(Told(SWAP.times(2), commutators=True).spare(), [0])
        self.assertEqual(Told(FIFTH, FIFTH).spare(), [0, 1])
        self.assertEqual(Told(FIFTH, FIFTH >> SWAP, THIRD).spare(), [0, 1])
        self.assertEqual(Told(FIFTH, FIFTH >> SWAP, THIRD, commutators=True).spare(), [])
        self.assertEqual(Told(FIFTH.times(2), FIFTH.times(3), FIFTH.times(6)).spare(), [2])
        rng = random.Random(5)
        for commutators in (False, True):
            for _ in range(8):
                told, _ = some_told(rng, 5, commutators)
                own = told.exchanges()
                for at, exchange in enumerate(own):
                    others = Told(*own[:at], *own[at + 1:], commutators=commutators)
                    self.assertEqual(at in told.spare(), others.makes(exchange))

    def test_wrong(self):
        with self.assertRaises(BadRow) as caught:
            Told()
        self.assertEqual(caught.exception.at, 0)
        self.assertRaises(BadRow, Told, commutators=True)
        for value in [value for value in any_values() if not isinstance(value, Exchange)] + [SWAP.text(), [FIFTH]]:
            for ahead in (0, 2):
                with self.assertRaises(BadRow) as caught:
                    # the wrong value counts, not the other line
                    Told(*[still(TWO), still(Ratio(3))][:ahead], value, None)
                self.assertEqual(caught.exception.at, ahead)
        self.assertRaises(OtherLine, Told, FIFTH, still(Ratio(3)))
        self.assertRaises(OtherLine, Told, FIFTH, THIRD, still(Ratio(4)), commutators=True)


class AgreeTest(unittest.TestCase):
    def test_sorts_and_readings(self):
        rng = random.Random(6)
        for _ in range(6):
            lengths = some_lengths(rng, 3)
            exchanges = [arranged(rng.sample(lengths, 3), shuffled(rng, 3)) for _ in range(7)]
            place = {at: k for k, sort in enumerate(sorts(exchanges)) for at in sort}
            weights = [[1 if at == own else 0 for at in range(15)] for own in range(15)]
            for one in range(7):
                for other in range(7):
                    e, f = exchanges[one], exchanges[other]
                    same = same_sort(e, f)
                    self.assertEqual(place[one] == place[other], same)
                    # readings tell two sorts apart, and fair swaps make what leads from one to the other
                    plain = [Reading(row).value_of(e) == Reading(row).value_of(f) for row in weights]
                    self.assertEqual(all(plain), same)
                    self.assertEqual(Told(still(e.top)).makes(~e >> f), same)
                    if same:
                        self.assertEqual(Told(*exchanges).counts_for(~e >> f), (0,) * 7)

    def test_fitted_and_told(self):
        rng = random.Random(7)
        seen = set()
        for _ in range(12):
            lengths = some_lengths(rng, 3)
            exchanges = [arranged(rng.sample(lengths, 3), shuffled(rng, 3)) for _ in range(2)]
            made = arranged(lengths, shuffled(rng, 3)).times(rng.choice([1, 2]))
            told = Told(*exchanges)
            reading = told.bar(made)
            seen.add(reading is None)
            samples = [(exchange.wedge, 0) for exchange in exchanges]
            if reading is None:
                # no reading that is 0 on the told ones is something else on what they make, but for swaps
                bare = [(Wedge(wedge.pairs()), value) for wedge, value in samples]
                for modulus in (2, 3, 4, 9):
                    with self.assertRaises(Unfit):
                        fitted(bare + [(Wedge(made.wedge.pairs()), 1)], modulus=modulus)
            else:
                value = reading.value_of(made)
                found = fitted(samples + [(made.wedge, value)], modulus=reading.modulus)
                self.assertEqual([found.value_of(own) for own in exchanges], [0, 0])
                self.assertEqual(found.value_of(made), value)
        self.assertEqual(seen, {True, False})

    def test_wedges_of_lengths(self):
        told = Told(Turn(ONE, Ratio(9, 8), Ratio(10, 9)).on(TWO), fold(TWO, Ratio(3)))
        self.assertIs(told.makes(exchange_with(TWO, wedge_of(TWO, Ratio(3)) * 7)), True)
        self.assertIs(told.makes(exchange_with(TWO, wedge_of(TWO, Ratio(5)))), False)


if __name__ == "__main__":
    unittest.main()
