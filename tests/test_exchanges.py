"""Promises 13 to 15 and 26: exchanges told, refused, one behind another, and their texts."""

import random
import unittest
from fractions import Fraction

from tests.samples import (
    INTERVALS, ONE, TWO, any_values, cut_rows, edge_tones, fraction, image_by_rows, is_exchange_of, shuffled,
    some_exchange, some_lengths, some_pair, some_tones, tone,
)
from turnsleft.errors import (
    BadRow, BadText, BadTop, NotFilled, NotOnLine, OffLine, OtherLine, Overlap,
)
from turnsleft.exchanges import Exchange
from turnsleft.moves import arranged, fold, still
from turnsleft.ratios import Ratio

FIFTH = fold(TWO, Ratio(3, 2))


class ToldTest(unittest.TestCase):
    def test_example(self):
        self.assertEqual(FIFTH.text(), "2: 1 4/3 3/2, 4/3 3/2 3/4")
        self.assertEqual(str(FIFTH), FIFTH.text())
        self.assertEqual(FIFTH((5, 3)), (5, 4))
        self.assertEqual(FIFTH.top, TWO)
        self.assertEqual(FIFTH.laid(), [1, 0])
        self.assertEqual(len(FIFTH), 2)
        self.assertEqual(repr(FIFTH), "Exchange(2 rows)")
        self.assertEqual(repr(still(TWO)), "Exchange(1 rows)")
        self.assertTrue(FIFTH)

    def test_rows_are_joined_and_ascending(self):
        rng = random.Random(1)
        for _ in range(40):
            exchange = some_exchange(rng, rng.randint(1, 8))
            self.assertTrue(is_exchange_of(exchange, exchange.top))
            cut = cut_rows(rng, exchange.rows())
            again = Exchange(exchange.top, cut)
            self.assertEqual(again, exchange)
            self.assertEqual(again.rows(), exchange.rows())
            self.assertEqual(Exchange(top=exchange.top, rows=tuple(cut)), exchange)
            self.assertEqual(len(exchange), len(exchange.rows()))

    def test_laid(self):
        rng = random.Random(2)
        for _ in range(20):
            exchange = some_exchange(rng, 7)
            images = [fraction(start * factor) for start, _, factor in exchange.rows()]
            self.assertEqual([images[at] for at in exchange.laid()], sorted(images))
            self.assertEqual(sorted(exchange.laid()), list(range(len(exchange))))

    def test_tones(self):
        rng = random.Random(3)
        for _ in range(25):
            exchange = some_exchange(rng, rng.randint(1, 7))
            for value in some_tones(rng, exchange.top) + edge_tones(exchange):
                self.assertEqual(exchange(value), image_by_rows(exchange.rows(), value))

    def test_no_tones(self):
        for value in any_values() + [(2, 1), (1, 2), (19, 9), (4, 3, 1), [4, 3], (6, 4)]:
            with self.assertRaises(NotOnLine) as caught:
                FIFTH(value)
            self.assertIs(caught.exception.tone, value)
            for many in (0, 1):
                walk = FIFTH.walk(value, many)
                with self.assertRaises(NotOnLine) as caught:
                    next(walk)
                self.assertIs(caught.exception.tone, value)
        self.assertEqual(FIFTH((1, 1)), (3, 2))
        self.assertEqual(FIFTH((1999, 1000)), (5997, 4000))

    def test_walk(self):
        self.assertEqual(list(FIFTH.walk((1, 1), 0)), [])
        self.assertEqual(list(FIFTH.walk((1, 1), 3)), [(3, 2), (9, 8), (27, 16)])
        self.assertEqual(list(FIFTH.walk(tone=(17, 16), many=1)), [(51, 32)])
        self.assertEqual(len(list(FIFTH.walk((1, 1), 400))), 400)
        rng = random.Random(4)
        exchange = some_exchange(rng, 6)
        for value in some_tones(rng, exchange.top, 3):
            place = value
            for found in exchange.walk(value, 12):
                place = exchange(place)
                self.assertEqual(found, place)

    def test_image(self):
        self.assertEqual(FIFTH.image(ONE, TWO), [(ONE, TWO)])
        self.assertEqual(FIFTH.image(ONE, Ratio(4, 3)), [(Ratio(3, 2), Ratio(4, 3))])
        self.assertEqual(FIFTH.image(start=Ratio(4, 3), length=Ratio(3, 2)), [(ONE, Ratio(3, 2))])
        found = FIFTH.image(Ratio(5, 4), Ratio(6, 5))
        self.assertEqual(found, [(ONE, Ratio(9, 8)), (Ratio(15, 8), Ratio(16, 15))])

    def test_image_by_tones(self):
        rng = random.Random(5)
        for _ in range(40):
            exchange = some_exchange(rng, 6)
            start, end = sorted(rng.sample(places_of(rng, exchange), 2), key=fraction)
            stretches = exchange.image(start, end // start)
            ends = [(fraction(low), fraction(low * length)) for low, length in stretches]
            for (_, high), (low, _) in zip(ends, ends[1:]):
                self.assertLess(high, low)
            for value in some_tones(rng, exchange.top, 20) + edge_tones(exchange):
                inside = fraction(start) <= fraction(value) < fraction(end)
                image = fraction(exchange(value))
                self.assertEqual(any(low <= image < high for low, high in ends), inside)

    def test_image_refused(self):
        wrong = [(ONE, Ratio(9, 4)), (Ratio(1, 2), Ratio(3, 2)), (Ratio(3, 2), Ratio(3, 2)), (TWO, TWO), (ONE, ONE)]
        wrong += [(ONE, value) for value in any_values() if value != Ratio(9, 8)]
        wrong += [(value, Ratio(9, 8)) for value in any_values() if not isinstance(value, Ratio)]
        for start, length in wrong:
            with self.assertRaises(OffLine) as caught:
                FIFTH.image(start, length)
            self.assertEqual(caught.exception.at, 0)

    def test_equal(self):
        self.assertEqual(FIFTH, Exchange(TWO, FIFTH.rows()[::-1]))
        self.assertNotEqual(FIFTH, still(TWO))
        self.assertNotEqual(still(TWO), still(Ratio(3)))
        for value in any_values() + [FIFTH.rows(), FIFTH.text()]:
            if not isinstance(value, Exchange):
                self.assertIs(FIFTH == value, False)

    def test_nothing_changes(self):
        rows = FIFTH.rows()
        exchange = Exchange(TWO, rows)
        rows.pop()
        exchange.rows().pop()
        exchange.laid().pop()
        exchange.image(ONE, TWO).pop()
        self.assertEqual(exchange, FIFTH)
        self.assertEqual(len(exchange.rows()), 2)
        self.assertEqual(exchange.laid(), [1, 0])


def places_of(rng, exchange):
    """Starts of rows of an exchange, its top, and some ratios between."""
    places = [start for start, _, _ in exchange.rows()] + [exchange.top]
    for start, length, _ in exchange.rows():
        places += [start * part for part in rng.sample(INTERVALS, 3) if part.below(length)]
    return places


class RefusedTest(unittest.TestCase):
    def check(self, kind, top, rows, **attributes):
        with self.assertRaises(kind) as caught:
            Exchange(top, rows)
        for name, value in attributes.items():
            self.assertEqual(getattr(caught.exception, name), value)

    def test_bad_top(self):
        for value in any_values():
            if not isinstance(value, Ratio):
                self.check(BadTop, value, None)
        self.check(BadTop, ONE, [(ONE, TWO, ONE)])
        self.check(BadTop, Ratio(1, 2), [])

    def test_bad_row(self):
        for value in any_values():
            if not isinstance(value, (list, tuple)):
                self.check(BadRow, TWO, value, at=-1)
            self.check(BadRow, TWO, [(ONE, TWO, ONE), value if value != (ONE, TWO, ONE) else 1, 7], at=1)
        wrong = [
            [ONE, TWO, ONE], (ONE, TWO), (ONE, TWO, ONE, ONE), (ONE, ONE, ONE), (ONE, Ratio(1, 2), ONE), (1, TWO, ONE),
            (ONE, 2, ONE), (ONE, TWO, 1), (ONE, TWO, None), ((1, 1), TWO, ONE), (ONE, "2", ONE),
        ]
        for row in wrong:
            self.check(BadRow, TWO, [row], at=0)
            self.check(BadRow, TWO, ((Ratio(9), TWO, ONE), row), at=1)

    def test_off_line(self):
        stays = (ONE, Ratio(3, 2), ONE)
        self.check(OffLine, TWO, [stays, (Ratio(3, 2), Ratio(3, 2), ONE)], at=1)
        self.check(OffLine, TWO, [(Ratio(3, 4), Ratio(4, 3), TWO)], at=0)
        self.check(OffLine, TWO, [stays, stays, (ONE, Ratio(3, 2), Ratio(3, 2))], at=2)
        self.check(OffLine, TWO, [(ONE, Ratio(3, 2), Ratio(2, 3)), (TWO, TWO, TWO)], at=0)
        self.check(OffLine, TWO, [(TWO, Ratio(3, 2), Ratio(1, 2))], at=0)

    def test_overlap(self):
        low = (ONE, Ratio(3, 2), ONE)
        high = (Ratio(3, 2), Ratio(4, 3), ONE)
        self.check(Overlap, TWO, [high, low, (Ratio(4, 3), Ratio(9, 8), ONE)], one=1, other=2)
        self.check(Overlap, TWO, [high, low, low, high], one=0, other=3)
        self.check(Overlap, TWO, [(ONE, Ratio(9, 8), ONE), low, low], one=0, other=1)
        # only the images meet
        self.check(Overlap, TWO, [(ONE, Ratio(4, 3), ONE), (Ratio(4, 3), Ratio(3, 2), Ratio(3, 4))], one=0, other=1)
        # the images of a lower pair meet than the stretches do
        rows = [(ONE, Ratio(9, 8), Ratio(3, 2)), (Ratio(9, 8), Ratio(10, 9), Ratio(4, 3)), (Ratio(9, 8), Ratio(9, 8), ONE)]
        self.check(Overlap, TWO, rows, one=0, other=1)
        rows = [(ONE, Ratio(9, 8), ONE), (Ratio(5, 4), Ratio(6, 5), ONE), (ONE, Ratio(9, 8), Ratio(3, 2))]
        self.check(Overlap, TWO, rows, one=0, other=2)

    def test_overlap_by_all_pairs(self):
        rng = random.Random(6)
        for _ in range(60):
            rows = []
            for _ in range(rng.randint(2, 6)):
                start, length, place = (rng.choice(INTERVALS) for _ in range(3))
                rows.append((start, length, place // start))
            found = first_overlap(rows)
            if found is None:
                self.assertRaises(NotFilled, Exchange, Ratio(16), rows)
            else:
                self.check(Overlap, Ratio(16), rows, one=found[0], other=found[1])

    def test_not_filled(self):
        self.check(NotFilled, TWO, [], missing=TWO)
        self.check(NotFilled, TWO, (), missing=TWO)
        self.check(NotFilled, TWO, [(ONE, Ratio(3, 2), ONE)], missing=Ratio(4, 3))
        self.check(NotFilled, TWO, [(Ratio(4, 3), Ratio(3, 2), Ratio(3, 4))], missing=Ratio(4, 3))

    def test_order_of_errors(self):
        off = (ONE, Ratio(3), ONE)
        self.check(BadTop, 2, [7])
        self.check(BadRow, TWO, [off, off, 7], at=2)
        self.check(OffLine, TWO, [(ONE, Ratio(3, 2), ONE), (ONE, Ratio(3, 2), ONE), off], at=2)
        self.check(Overlap, TWO, [(ONE, Ratio(9, 8), ONE), (ONE, Ratio(9, 8), ONE)], one=0, other=1)

    def test_touching(self):
        rows = [(ONE, Ratio(3, 2), ONE), (Ratio(3, 2), Ratio(4, 3), ONE)]
        self.assertEqual(Exchange(TWO, rows), still(TWO))

    def test_long_lists(self):
        rng = random.Random(7)
        lengths = some_lengths(rng, 400)
        exchange = arranged(lengths, shuffled(rng, 400))
        rows = cut_rows(rng, exchange.rows())
        self.assertEqual(Exchange(exchange.top, rows), exchange)
        self.check(Overlap, exchange.top, rows[:200] + [rows[17]] + rows[200:], one=17, other=200)
        self.check(NotFilled, exchange.top, rows[:-1], missing=rows[-1][1])


def first_overlap(rows):
    """The least pair of rows whose stretches or images meet, by all pairs."""
    for one in range(len(rows)):
        for other in range(one + 1, len(rows)):
            for lifted in (False, True):
                places = [start * factor if lifted else start for start, _, factor in (rows[one], rows[other])]
                low = max(fraction(place) for place in places)
                ends = [fraction(place * row[1]) for place, row in zip(places, (rows[one], rows[other]))]
                if low < min(ends):
                    return (one, other)
    return None


class BehindTest(unittest.TestCase):
    def test_one_behind_another(self):
        rng = random.Random(8)
        for _ in range(40):
            e, f = some_pair(rng, rng.randint(1, 7))
            both = e >> f
            self.assertTrue(is_exchange_of(both, e.top))
            for value in some_tones(rng, e.top) + edge_tones(e) + edge_tones(f) + edge_tones(both):
                self.assertEqual(both(value), f(e(value)))

    def test_back(self):
        rng = random.Random(9)
        for _ in range(30):
            e, f = some_pair(rng)
            self.assertTrue(is_exchange_of(~e, e.top))
            self.assertEqual(e >> ~e, still(e.top))
            self.assertEqual(~e >> e, still(e.top))
            self.assertEqual(~~e, e)
            self.assertEqual(~(e >> f), ~f >> ~e)

    def test_laws(self):
        rng = random.Random(10)
        for _ in range(15):
            e, f = some_pair(rng)
            g = e >> e >> f
            self.assertEqual((e >> f) >> g, e >> (f >> g))
            self.assertEqual(e >> still(e.top), e)
            self.assertEqual(still(e.top) >> e, e)

    def test_times(self):
        self.assertEqual(FIFTH.times(0), still(TWO))
        self.assertEqual(FIFTH.times(1), FIFTH)
        self.assertEqual(FIFTH.times(-1), ~FIFTH)
        rng = random.Random(11)
        for _ in range(6):
            exchange = some_exchange(rng, 4)
            done = still(exchange.top)
            for k in range(1, 8):
                done = done >> exchange
                self.assertEqual(exchange.times(k), done)
                self.assertEqual(exchange.times(k=-k), ~done)
        for k in (-60, 60):
            self.assertEqual(FIFTH.times(k), fold(TWO, Ratio(3, 2).power(k)))

    def test_other_line(self):
        self.assertRaises(OtherLine, lambda: FIFTH >> still(Ratio(3)))
        self.assertRaises(OtherLine, lambda: still(Ratio(3)) >> FIFTH)

    def test_arguments_stay(self):
        text = FIFTH.text()
        results = [FIFTH >> FIFTH, ~FIFTH, FIFTH.times(5), FIFTH.times(-5)]
        self.assertEqual(len(results), 4)
        self.assertEqual(FIFTH.text(), text)


class TextsTest(unittest.TestCase):
    def test_lead_back(self):
        rng = random.Random(12)
        for _ in range(30):
            exchange = some_exchange(rng, rng.randint(1, 8))
            self.assertEqual(Exchange.read(exchange.text()), exchange)
        self.assertEqual(Exchange.read("2: 1 2 1"), still(TWO))
        self.assertEqual(Exchange.read(text=FIFTH.text()), FIFTH)

    def test_wrong(self):
        wrong = [
            "", "2", "2:", "2: ", "2:1 2 1", "2 : 1 2 1", "2:  1 2 1", " 2: 1 2 1", "2: 1 2 1 ", "2: 1 2 1\n", "2: 1 2 1,",
            "2: 1 2 1, ", "2: 1 2", "2: 1 2 1 1", "2: 1  2 1", "1: 1 2 1", "2: 1 3/2 1", "2: 1 3 1", "4/2: 1 2 1", "02: 1 2 1",
            "2: 1 3/2 1, 3/2 4/3 1", "2: 1 4/3 3/2,4/3 3/2 3/4", "2: 4/3 3/2 3/4, 1 4/3 3/2", "2: 1 4/3 3/2; 4/3 3/2 3/4",
            "2: 1 4/3 6/4, 4/3 3/2 3/4", "2: 1 4/3 3/2, 4/3 3/2 3/4: 1", "2: 1 4/3 3/2, 4/3 3/2 3/4, 1 2 1", "17: 1 17 1",
            "2: 1 4/3 1, 4/3 3/2 3/4", "2: 1 17/16 1, 17/16 32/17 1", "a: b c d", ": , ", "2: 0 2 1", "2: 1 2 0",
        ]
        for text in wrong:
            self.assertRaises(BadText, Exchange.read, text)
        for value in any_values():
            if value != "2: 1 2 1":
                self.assertRaises(BadText, Exchange.read, value)

    def test_one_sign_changed(self):
        rng = random.Random(13)
        for exchange in [FIFTH, still(TWO), still(Ratio(9, 8))] + [some_exchange(rng, 3) for _ in range(3)]:
            text = exchange.text()
            for at in range(len(text)):
                for sign in "0123456789/ ,:":
                    for changed in (text[:at] + sign + text[at + 1:], text[:at] + sign + text[at:]):
                        self.check_read(changed)
                self.check_read(text[:at] + text[at + 1:])

    def test_one_row_changed(self):
        rng = random.Random(14)
        for _ in range(40):
            exchange = some_exchange(rng, 4)
            rows = exchange.text().split(": ")[1].split(", ")
            at = rng.randrange(len(rows))
            other = rng.choice([f"{start} {length} {factor}" for start, length, factor in some_exchange(rng, 3).rows()])
            change = rng.choice([[], [rows[at]] * 2, [other], [rows[at], other]])
            self.check_read(f"{exchange.top}: " + ", ".join(rows[:at] + change + rows[at + 1:]))
        # two rows that could be joined
        self.assertRaises(BadText, Exchange.read, "4: 1 2 1, 2 2 1")
        self.assertEqual(len(Exchange.read("4: 1 2 2, 2 2 1/2")), 2)

    def check_read(self, text):
        """A text is read exactly if the numbers in it tell an exchange whose text it is."""
        told = told_by(text)
        try:
            read = Exchange.read(text)
        except BadText:
            read = None
        self.assertEqual(read is not None, told, text)
        if read is not None:
            self.assertEqual(read.text(), text)

    def test_long_numbers(self):
        # the lengths together have more digits than one text of a ratio may have
        parts = [Ratio.of_powers([0, 4000, 0, 0, 0, 0]), Ratio.of_powers([0, 0, 2800, 0, 0, 0])]
        self.assertEqual([len(part.text()) for part in parts], [1909, 1958])
        top = parts[0] * parts[1]
        self.assertRaises(BadText, Exchange.read, f"{top}: 1 {parts[0]} 1, {parts[0]} {parts[1]} 1")
        self.assertRaises(BadText, Exchange.read, f"{parts[1]}: 1 {parts[0]} 1, {parts[0]} {parts[1]} 1")
        self.assertEqual(Exchange.read(f"{parts[1]}: 1 {parts[1]} 1"), still(parts[1]))
        top = Ratio.of_powers([6644, 0, 0, 0, 0, 0])
        self.assertRaises(BadText, Exchange.read, f"{top}: 1 {top} 1")


def told_by(text):
    """Whether a text is one of an exchange in its plain form, told by fractions alone."""
    head, colon, tail = text.partition(": ")
    top = value_of(head)
    if not colon or top is None or top <= 1:
        return False
    rows = []
    for part in tail.split(", "):
        row = [value_of(word) for word in part.split(" ")]
        if len(row) != 3 or None in row or row[1] <= 1:
            return False
        rows.append(row)
    end = Fraction(1)
    for start, length, _ in rows:
        if start != end:
            return False
        end = start * length
    images = Fraction(1)
    for start, length, factor in sorted(rows, key=lambda row: row[0] * row[2]):
        if start * factor != images:
            return False
        images = images * length
    joined = all(one[2] != two[2] for one, two in zip(rows, rows[1:]))
    return end == top and images == top and joined


def value_of(text):
    """The value of a text of a ratio, None for any other text."""
    over, slash, under = text.partition("/")
    parts = [over, under] if slash else [over]
    if not all(part.isdigit() and part[0] != "0" for part in parts):
        return None
    value = Fraction(*(int(part) for part in parts))
    left = value.numerator * value.denominator
    for prime in (2, 3, 5, 7, 11, 13):
        while left % prime == 0:
            left //= prime
    plain = "/".join(str(number) for number in tone(value)) if value.denominator > 1 else str(value.numerator)
    return value if left == 1 and plain == text else None


if __name__ == "__main__":
    unittest.main()
