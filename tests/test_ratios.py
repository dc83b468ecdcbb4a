"""Promises 3, 4 and 5: ratios told, refused and read, and lists of ratios; promise 26 for their texts."""

import random
import unittest
from fractions import Fraction

from tests.samples import ONE, PRIMES, any_values, fraction, some_ratio
from turnsleft import ratios
from turnsleft.errors import BadRatio, BadText
from turnsleft.ratios import Ratio, in_order, is_length, is_ratio, multiplied


class ToldTest(unittest.TestCase):
    def test_lowest_terms(self):
        ratio = Ratio(18, 16)
        self.assertEqual((ratio.over, ratio.under), (9, 8))
        self.assertEqual((Ratio(2).over, Ratio(2).under), (2, 1))
        self.assertEqual((Ratio(over=6, under=9).over, Ratio(6, 9).under), (2, 3))
        self.assertEqual(Ratio(17 * 2, 17), Ratio(2))

    def test_primes(self):
        self.assertEqual(ratios.PRIMES, PRIMES)
        self.assertIsInstance(ratios.PRIMES, tuple)

    def test_powers_and_bits(self):
        self.assertEqual(Ratio(9, 8).powers(), (-3, 2, 0, 0, 0, 0))
        self.assertEqual(Ratio(9, 8).bits(), (1, 0, 0, 0, 0, 0))
        self.assertEqual(ONE.powers(), (0, 0, 0, 0, 0, 0))
        self.assertEqual(Ratio(13 * 11 * 7, 5 * 3 * 2).powers(), (-1, -1, -1, 1, 1, 1))
        self.assertEqual(Ratio(13 * 11 * 7, 5 * 3 * 2).bits(), (1, 1, 1, 1, 1, 1))
        self.assertEqual(Ratio(2**130, 3**64 * 13**65).powers(), (130, -64, 0, 0, 0, -65))
        self.assertIsInstance(ONE.powers(), tuple)
        self.assertIsInstance(ONE.bits(), tuple)

    def test_of_powers(self):
        rng = random.Random(1)
        for _ in range(50):
            powers = [rng.randint(-40, 40) for _ in PRIMES]
            ratio = Ratio.of_powers(powers)
            value = Fraction(1)
            for prime, power in zip(PRIMES, powers):
                value *= Fraction(prime) ** power
            self.assertEqual(fraction(ratio), value)
            self.assertEqual(ratio.powers(), tuple(powers))
            self.assertEqual(ratio.bits(), tuple(power % 2 for power in powers))
            self.assertEqual(Ratio(ratio.over, ratio.under), ratio)
            self.assertEqual(Ratio(ratio.over, ratio.under).powers(), tuple(powers))
            self.assertEqual(Ratio.of_powers(tuple(powers)), ratio)

    def test_power(self):
        self.assertEqual(Ratio(9, 8).power(2), Ratio(81, 64))
        self.assertEqual(Ratio(9, 8).power(0), ONE)
        self.assertEqual(Ratio(9, 8).power(-1), Ratio(8, 9))
        self.assertEqual(ONE.power(-200), ONE)
        for k in (-200, -3, -2, 1, 5, 200):
            self.assertEqual(fraction(Ratio(10, 9).power(k)), Fraction(10, 9) ** k)
            self.assertEqual(Ratio(10, 9).power(k).powers(), (k, -2 * k, k, 0, 0, 0))

    def test_products_and_quotients(self):
        rng = random.Random(2)
        for _ in range(60):
            one = some_ratio(rng)
            two = some_ratio(rng)
            for ratio, value in ((one * two, fraction(one) * fraction(two)), (one // two, fraction(one) / fraction(two))):
                self.assertEqual((ratio.over, ratio.under), (value.numerator, value.denominator))
                self.assertEqual(ratio.powers(), Ratio(ratio.over, ratio.under).powers())
            self.assertEqual((one * two) // two, one)
            self.assertEqual(one // one, ONE)

    def test_below_and_equal(self):
        rng = random.Random(3)
        for _ in range(60):
            one = some_ratio(rng, 1)
            two = some_ratio(rng, 1)
            self.assertIs(one.below(two), fraction(one) < fraction(two))
            self.assertIs(one == two, fraction(one) == fraction(two))
            self.assertIs(one != two, fraction(one) != fraction(two))
        self.assertFalse(ONE.below(ONE))
        self.assertTrue(Ratio(80, 81).below(ONE))

    def test_equals_nothing_else(self):
        for value in any_values() + [1, 2, (2, 1), "2", Fraction(2)]:
            self.assertIs(Ratio(2) == value, False)
            self.assertIs(Ratio(2) != value, True)

    def test_tone_and_texts(self):
        self.assertEqual(Ratio(9, 8).as_tone(), (9, 8))
        self.assertEqual(Ratio(2).as_tone(), (2, 1))
        for ratio, text in ((Ratio(9, 8), "9/8"), (Ratio(2), "2"), (ONE, "1"), (Ratio(1, 2), "1/2")):
            self.assertEqual(ratio.text(), text)
            self.assertEqual(str(ratio), text)
            self.assertEqual(repr(ratio), f"Ratio({text})")

    def test_nothing_changes(self):
        powers = [1, -1, 0, 0, 0, 0]
        ratio = Ratio.of_powers(powers)
        other = Ratio(9, 8)
        results = (ratio * other, ratio // other, ratio.power(7), ratio.below(other), ratio == other)
        self.assertEqual(len(results), 5)
        self.assertEqual(powers, [1, -1, 0, 0, 0, 0])
        powers[0] = 9
        self.assertEqual((ratio.over, ratio.under, ratio.powers()), (2, 3, (1, -1, 0, 0, 0, 0)))
        self.assertEqual((other.over, other.under, other.powers()), (9, 8, (-3, 2, 0, 0, 0, 0)))


class RefusedTest(unittest.TestCase):
    def test_wrong_numbers(self):
        wrong = [(0,), (-1,), (1, 0), (0, 1), (1, -2), (-1, -2), (17,), (1, 17), (2, 19), (34, 19), (True,), (2, True)]
        for values in wrong + [(10**200 + 1, 1), ("9", 8), (9, "8"), (9, None), ((9, 8),), ([9, 8],), (2**64 * 17,)]:
            self.assertRaises(BadRatio, Ratio, *values)
        for value in any_values():
            if value != 1 or value is True:
                self.assertRaises(BadRatio, Ratio, value)
                self.assertRaises(BadRatio, Ratio, 3, value)
                self.assertRaises(BadRatio, Ratio, over=value, under=value)

    def test_wrong_powers(self):
        wrong = [
            (), [], [0] * 5, [0] * 7, [0, 0, 0, 0, 0, True], [False] * 6, ["0"] * 6, [None] * 6, "000000",
            [10000, 0, 0, 0, 0, 0], (0, 0, 0, 0, 0, -10000), [[0]] * 6, (0, 0, 0, 0, 0, ONE), [0, 0, 10**200, 0, 0, 0],
        ]
        for value in wrong + any_values():
            self.assertRaises(BadRatio, Ratio.of_powers, value)

    def test_greatest_powers(self):
        ratio = Ratio.of_powers([9999, -9999, 0, 0, 0, 0])
        self.assertEqual(ratio.powers(), (9999, -9999, 0, 0, 0, 0))
        self.assertEqual((ratio.over, ratio.under), (2**9999, 3**9999))
        self.assertEqual((ratio * ratio).powers(), (19998, -19998, 0, 0, 0, 0))
        self.assertEqual(Ratio(ratio.over, ratio.under), ratio)

    def test_read(self):
        for text in ("9/8", "2", "1", "1/2", "13/11", "8/9", "1024", "1/13"):
            self.assertEqual(Ratio.read(text).text(), text)
        for text in ("17", "1/17", "18/16", "2/1", "02", "", "0", "9/08", "9 /8", "9/8 ", "-2", "+2", "9/8/7", "a", "1\n"):
            self.assertRaises(BadText, Ratio.read, text)
        for value in any_values():
            if value != "9/8":
                self.assertRaises(BadText, Ratio.read, value)

    def test_read_long(self):
        longest = Ratio.of_powers([6643, 0, 0, 0, 0, 0])
        self.assertEqual(len(longest.text()), 2000)
        self.assertEqual(Ratio.read(longest.text()), longest)
        self.assertEqual(Ratio.read("1/" + longest.text()), ONE // longest)
        longer = Ratio.of_powers([6644, 0, 0, 0, 0, 0])
        self.assertEqual(len(longer.text()), 2001)
        self.assertRaises(BadText, Ratio.read, longer.text())
        self.assertRaises(BadText, Ratio.read, "1/" + longer.text())

    def test_texts_lead_back(self):
        rng = random.Random(4)
        signs = "0123456789/ a"
        for _ in range(40):
            ratio = some_ratio(rng)
            text = ratio.text()
            self.assertEqual(Ratio.read(text), ratio)
            at = rng.randrange(len(text))
            for sign in signs:
                changed = text[:at] + sign + text[at + 1:]
                try:
                    read = Ratio.read(changed)
                except BadText:
                    read = None
                self.assertEqual(read is not None, is_text(changed), changed)
                if read is not None:
                    self.assertEqual(read.text(), changed)

    def test_is_ratio_and_is_length(self):
        for value in any_values():
            own = isinstance(value, Ratio)
            self.assertIs(is_ratio(value), own)
            self.assertIs(is_length(value), own)
        self.assertIs(is_ratio(ONE), True)
        self.assertIs(is_length(ONE), False)
        self.assertIs(is_length(Ratio(1, 2)), False)
        self.assertIs(is_length(Ratio(81, 80)), True)


def is_text(text):
    """Whether a text is one of a ratio, told in another way."""
    parts = text.split("/")
    if len(parts) > 2 or any(not part.isdigit() or part[0] == "0" for part in parts):
        return False
    value = Fraction(int(parts[0]), int(parts[-1]) if len(parts) == 2 else 1)
    left = value.numerator * value.denominator
    for prime in PRIMES:
        while left % prime == 0:
            left //= prime
    plain = str(value.numerator) if value.denominator == 1 else f"{value.numerator}/{value.denominator}"
    return left == 1 and plain == text


class ListsTest(unittest.TestCase):
    def test_multiplied(self):
        self.assertEqual(multiplied([]), ONE)
        self.assertEqual(multiplied(()), ONE)
        self.assertEqual(multiplied([Ratio(9, 8), Ratio(10, 9)]), Ratio(5, 4))
        self.assertEqual(multiplied((Ratio(2),) * 3), Ratio(8))

    def test_in_order(self):
        self.assertEqual(in_order([]), [])
        self.assertEqual(in_order((Ratio(2), ONE, Ratio(1, 2))), [Ratio(1, 2), ONE, Ratio(2)])
        rng = random.Random(5)
        given = [some_ratio(rng, 1) for _ in range(400)]
        copy = list(given)
        found = in_order(given)
        self.assertEqual([fraction(ratio) for ratio in found], sorted({fraction(ratio) for ratio in given}))
        self.assertEqual(given, copy)
        self.assertIsNot(found, given)

    def test_new_lists(self):
        given = [Ratio(2)]
        in_order(given).append(ONE)
        self.assertEqual(given, [Ratio(2)])
        self.assertEqual(in_order(given), [Ratio(2)])


if __name__ == "__main__":
    unittest.main()
