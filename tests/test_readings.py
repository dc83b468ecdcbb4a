"""Promises 44 and 45: readings told, and readings that add."""

import random
import unittest

from tests.samples import TWO, any_values, some_exchange, some_pair, some_swap
from turnsleft.errors import BadReading
from turnsleft.moves import fold, still
from turnsleft.ratios import Ratio
from turnsleft.readings import Reading
from turnsleft.wedges import Wedge, nothing

PLAIN = list(range(15))
NO_BITS = (0, 0, 0, 0, 0, 0)
SOME_BITS = (1, 0, 1, 0, 0, 1)


def some_reading(rng, modulus):
    """A reading with a modulus."""
    bits = [rng.randint(0, 1) if modulus > 0 and modulus % 2 == 0 else 0 for _ in range(6)]
    return Reading([rng.randint(-9, 9) for _ in range(15)], bits=bits, modulus=modulus)


class ToldTest(unittest.TestCase):
    def test_small(self):
        reading = Reading(PLAIN, bits=SOME_BITS, modulus=4)
        self.assertEqual(reading.weights(), tuple(PLAIN))
        self.assertEqual((reading.bits(), reading.modulus), (SOME_BITS, 4))
        self.assertEqual(repr(reading), "Reading(modulus 4)")
        self.assertEqual(repr(Reading(PLAIN)), "Reading(modulus 0)")
        self.assertEqual((Reading(PLAIN).bits(), Reading(PLAIN).modulus), (NO_BITS, 0))
        self.assertEqual(Reading(weights=tuple(PLAIN), modulus=0, bits=list(NO_BITS)), Reading(PLAIN))

    def test_lists_are_copied(self):
        weights, bits = list(PLAIN), list(SOME_BITS)
        reading = Reading(weights, bits=bits, modulus=6)
        weights[0] = 9
        bits[0] = 0
        self.assertEqual((reading.weights(), reading.bits()), (tuple(PLAIN), SOME_BITS))

    def test_values(self):
        wedge = Wedge([1, -2] + [0] * 12 + [3], [1, 1, 1, 0, 0, 0])
        whole = 0 * 1 - 2 * 1 + 3 * 14
        self.assertEqual(Reading(PLAIN)(wedge), whole)
        self.assertEqual(Reading(PLAIN, modulus=7)(wedge), whole % 7)
        self.assertEqual(Reading(PLAIN, modulus=2)(wedge), 0)
        # two bits are 1 in both
        self.assertEqual(Reading(PLAIN, bits=SOME_BITS, modulus=6)(wedge), (whole + 3 + 3) % 6)
        self.assertEqual(Reading(PLAIN, bits=(1, 0, 0, 1, 0, 0), modulus=6)(wedge), (whole + 3) % 6)
        self.assertEqual(Reading([-1] * 15, modulus=5)(wedge), -2 % 5)
        self.assertEqual(Reading([-1] * 15)(wedge), -2)
        self.assertEqual(Reading([0] * 15, bits=SOME_BITS, modulus=2)(nothing()), 0)
        self.assertEqual(Reading([1] + [0] * 14).value_of(fold(TWO, Ratio(3, 2))), 1)
        self.assertEqual(Reading([1] + [0] * 14, modulus=3).value_of(exchange=~fold(TWO, Ratio(3, 2))), 2)

    def test_equal(self):
        reading = Reading(PLAIN, bits=SOME_BITS, modulus=4)
        self.assertEqual(reading, Reading(tuple(PLAIN), bits=list(SOME_BITS), modulus=4))
        others = [
            Reading(PLAIN[1:] + [0], bits=SOME_BITS, modulus=4), Reading(PLAIN, bits=SOME_BITS, modulus=8),
            Reading(PLAIN, modulus=4), Reading([weight + 4 for weight in PLAIN], bits=SOME_BITS, modulus=4),
        ]
        for other in others + any_values():
            self.assertIs(reading == other, False)

    def test_sums(self):
        one = Reading(PLAIN, bits=SOME_BITS, modulus=4)
        other = Reading([1] * 15, bits=(1, 1, 0, 0, 0, 0), modulus=4)
        self.assertEqual(one + other, Reading([weight + 1 for weight in PLAIN], bits=(0, 1, 1, 0, 0, 1), modulus=4))
        self.assertEqual(Reading(PLAIN) + Reading(PLAIN), Reading([2 * weight for weight in PLAIN]))
        for left, right in ((one, Reading(PLAIN)), (one, Reading(PLAIN, modulus=2)), (Reading(PLAIN, modulus=3), one)):
            self.assertRaises(BadReading, lambda: left + right)

    def test_wrong(self):
        rows = [PLAIN[1:], PLAIN + [1], [True] + PLAIN[1:], PLAIN[1:] + [None], ["1"] * 15, {k: k for k in PLAIN}]
        for weights in rows + any_values():
            self.assertRaises(BadReading, Reading, weights)
        for bits in [(1,) * 5, (1,) * 7, (2, 0, 0, 0, 0, 0), (-1, 0, 0, 0, 0, 0), (True,) + (0,) * 5, "000000"] + any_values():
            self.assertRaises(BadReading, Reading, PLAIN, bits=bits, modulus=2)
        for modulus in [1, -1, -2, True, False, 2.0] + [value for value in any_values() if value not in (0,)]:
            self.assertRaises(BadReading, Reading, PLAIN, modulus=modulus)
        for modulus in (0, 3, 5, 10**50 + 1):
            self.assertRaises(BadReading, Reading, PLAIN, bits=SOME_BITS, modulus=modulus)
            self.assertEqual(Reading(PLAIN, bits=NO_BITS, modulus=modulus).bits(), NO_BITS)
        self.assertEqual(Reading(PLAIN, bits=SOME_BITS, modulus=10**50).modulus, 10**50)


class AddTest(unittest.TestCase):
    def equal(self, reading, one, other):
        difference = one - other
        self.assertEqual(difference % reading.modulus if reading.modulus else difference, 0)

    def test_adding(self):
        rng = random.Random(1)
        for modulus in (0, 0, 2, 3, 4, 5, 12, 60):
            for _ in range(6):
                reading = some_reading(rng, modulus)
                e, f = some_pair(rng, 4)
                value = reading.value_of
                self.equal(reading, value(e >> f), value(e) + value(f))
                self.equal(reading, value(~e), -value(e))
                self.equal(reading, value(f >> e >> ~f), value(e))
                for k in (-3, 0, 2, 5):
                    self.equal(reading, value(e.times(k)), k * value(e))
                self.assertEqual(value(e), reading(e.wedge))
                other = some_reading(rng, modulus)
                self.equal(reading, (reading + other).value_of(e), value(e) + other.value_of(e))
                if modulus:
                    self.assertTrue(0 <= value(e) < modulus)

    def test_swaps_between(self):
        rng = random.Random(2)
        for modulus in (0, 2, 6, 8, 9):
            for _ in range(6):
                reading = some_reading(rng, modulus)
                swap = some_swap(rng, TWO).on(TWO)
                self.assertIn(reading.value_of(swap), (0, modulus // 2) if modulus % 2 == 0 else (0,))
                plain = Reading(reading.weights(), modulus=modulus)
                e = fold(TWO, Ratio(rng.choice([3, 5, 7])))
                f = fold(TWO, Ratio(rng.choice([9, 15, 11])))
                self.assertEqual(plain.value_of(e >> swap >> f), plain.value_of(e >> f))
                self.assertEqual(plain.value_of(swap), 0)

    def test_that_stays(self):
        rng = random.Random(3)
        for modulus in (0, 2, 7):
            self.assertEqual(some_reading(rng, modulus).value_of(still(TWO)), 0)
            exchange = some_exchange(rng, 4)
            self.assertEqual(some_reading(rng, modulus).value_of(exchange >> ~exchange), 0)


if __name__ == "__main__":
    unittest.main()
