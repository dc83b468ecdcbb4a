"""Promises 76 to 79 and 93: mirrored exchanges, their parities, and turns by three mirrors."""

import random
import unittest
from fractions import Fraction

from tests.samples import (
    INTERVALS, ONE, TWO, any_values, fraction, shuffled, some_exchange, some_lengths, some_tones, tone,
)
from turnsleft.errors import BadLength, BadRow, BadStart, BadTop, NotFilled, NotOnLine, OffLine, OtherLine, Overlap
from turnsleft.mirrors import Mirrored, mirror, parities_added, three_mirrors
from turnsleft.moves import Swap, Turn, fold, starts_along, still
from turnsleft.placing import resolved
from turnsleft.ratios import Ratio, is_length, is_ratio, multiplied
from turnsleft.sums import straight_matrix
from turnsleft.wedges import PAIRS, wedge_of

NINE = Ratio(9, 8)
FIFTH = Ratio(3, 2)
FOURTH = Ratio(4, 3)
NO_PARITY = ((0,) * 15, (0,) * 6, (0,) * 6)


def some_mirror_rows(rng, lengths):
    """Mirror rows with these lengths, laid in some order."""
    starts = starts_along(lengths)
    order = shuffled(rng, len(lengths))
    places = starts_along([lengths[at] for at in order])
    return [(starts[at], lengths[at], place, rng.random() < 0.5) for at, place in zip(order, places)]


def some_mirrored(rng, lengths):
    """A mirrored exchange with rows of these lengths."""
    return Mirrored(multiplied(lengths), some_mirror_rows(rng, shuffled_list(rng, lengths)))


def shuffled_list(rng, items):
    """A list in another order."""
    return [items[at] for at in shuffled(rng, len(items))]


def finer(rng, rows):
    """The same mirror rows, cut at some places and in another order."""
    cut = []
    for start, length, image, mirrored in rows:
        part = rng.choice([ratio for ratio in INTERVALS if ratio.below(length)] or [None])
        if part is None:
            cut.append((start, length, image, mirrored))
        elif mirrored:
            cut.append((start, part, image * (length // part), True))
            cut.append((start * part, length // part, image, True))
        else:
            cut.append((start, part, image, False))
            cut.append((start * part, length // part, image * part, False))
    return shuffled_list(rng, cut)


def image_by_rows(rows, value):
    """Where mirror rows lead a tone, told by fractions alone; None for the start of a mirrored one."""
    for start, length, image, mirrored in rows:
        low, high = fraction(start), fraction(start * length)
        if low <= fraction(value) < high:
            if not mirrored:
                return tone(fraction(value) * fraction(image) / low)
            return None if fraction(value) == low else tone(fraction(image) * high / fraction(value))
    return None


def parity_by_rows(rows):
    """The parity, pair by pair."""
    crosses, halves, counts = [0] * 15, [0] * 6, [0] * 6
    for start, length, image, _ in rows:
        for begin, other, goal, _ in rows:
            if fraction(start) < fraction(begin) and fraction(image) > fraction(goal):
                wedge = wedge_of(length, other)
                crosses = [own + number for own, number in zip(crosses, wedge.pairs())]
                halves = [own + bit for own, bit in zip(halves, wedge.bits())]
    for _, length, _, mirrored in rows:
        if mirrored:
            powers = length.powers()
            crosses = [own + powers[p] * powers[q] for own, (p, q) in zip(crosses, PAIRS)]
            halves = [own + k * (k - 1) // 2 for own, k in zip(halves, powers)]
            counts = [own + k for own, k in zip(counts, powers)]
    return tuple(tuple(item % 2 for item in row) for row in (crosses, halves, counts))


def plain_tones(rng, top):
    """Tones of a line that are no ratios, so no starts of rows."""
    return [value for value in some_tones(rng, top, 12) if value[0] % 17 == 0 or value[1] > 1000]


class ToldTest(unittest.TestCase):
    def test_example(self):
        whole = mirror(TWO, ONE, TWO)
        self.assertEqual([whole((3, 2)), whole((1, 1)), whole.parity[2]], [(4, 3), None, (1, 0, 0, 0, 0, 0)])
        self.assertEqual(len(whole >> whole), 1)

    def test_rows(self):
        rng = random.Random(1)
        for _ in range(40):
            lengths = some_lengths(rng, rng.randint(1, 7))
            rows = some_mirror_rows(rng, lengths)
            told = Mirrored(multiplied(lengths), rows)
            self.assertEqual(told.top, multiplied(lengths))
            self.assertEqual((len(told), repr(told)), (len(told.rows()), f"Mirrored({len(told.rows())} rows)"))
            self.assertEqual(Mirrored(told.top, finer(rng, rows)), told)
            self.assertEqual(Mirrored(told.top, tuple(finer(rng, told.rows()))), told)
            end = ONE
            for start, length, image, mirrored in told.rows():
                self.assertEqual(start, end)
                self.assertTrue(is_length(length) and is_ratio(image))
                self.assertIsInstance(mirrored, bool)
                end = start * length
            self.assertEqual(end, told.top)
            for value in some_tones(rng, told.top):
                self.assertEqual(told(value), image_by_rows(told.rows(), value))
                found = image_by_rows(rows, value)
                if found is not None:
                    self.assertIn(told(value), (found, None))

    def test_joined(self):
        # a mirrored stretch in two parts, one behind the other
        parts = [(ONE, FIFTH, FOURTH, True), (FIFTH, FOURTH, ONE, True)]
        self.assertEqual(Mirrored(TWO, parts).rows(), [(ONE, TWO, ONE, True)])
        # side by side at home and as images, but each one mirrored on its own
        apart = [(ONE, FIFTH, ONE, True), (FIFTH, FOURTH, FIFTH, True)]
        self.assertEqual(Mirrored(TWO, apart).rows(), apart)
        self.assertEqual(Mirrored(TWO, [(FIFTH, FOURTH, FIFTH, False), (ONE, FIFTH, ONE, False)]).rows(), [(ONE, TWO, ONE, False)])
        mixed = [(ONE, FIFTH, FOURTH, True), (FIFTH, FOURTH, ONE, False)]
        self.assertEqual(Mirrored(TWO, mixed).rows(), mixed)
        three = [(ONE, NINE, TWO // NINE, True), (NINE, FOURTH // NINE, FIFTH, True), (FOURTH, FIFTH, ONE, True)]
        self.assertEqual(Mirrored(TWO, three).rows(), [(ONE, TWO, ONE, True)])

    def test_starts_of_mirrored_rows(self):
        told = Mirrored(TWO, [(ONE, FIFTH, FOURTH, True), (FIFTH, FOURTH, ONE, False)])
        found = [told((1, 1)), told((3, 2)), told((4, 3)), told(tone=(9, 8))]
        self.assertEqual(found, [None, (1, 1), (3, 2), (16, 9)])
        # the start of a part within a joined row is led, and so is that of a row that is not mirrored
        joined = Mirrored(TWO, [(ONE, FIFTH, FOURTH, True), (FIFTH, FOURTH, ONE, True)])
        self.assertEqual([joined((3, 2)), joined((1, 1))], [(4, 3), None])
        self.assertEqual(Mirrored.plain(fold(TWO, FIFTH))((1, 1)), (3, 2))

    def test_no_tones(self):
        told = mirror(TWO, ONE, FIFTH)
        for value in [*any_values(), (2, 1), (1, 2), (6, 4), [3, 2], (True, 1), FIFTH]:
            with self.assertRaises(NotOnLine) as caught:
                told(value)
            self.assertIs(caught.exception.tone, value)

    def test_plain(self):
        rng = random.Random(2)
        for _ in range(10):
            exchange = some_exchange(rng, 5)
            told = Mirrored.plain(exchange)
            rows = [(start, length, start * factor, False) for start, length, factor in exchange.rows()]
            self.assertEqual((told.top, told.rows()), (exchange.top, rows))
            self.assertEqual(Mirrored.plain(exchange=exchange), told)
            for value in some_tones(rng, exchange.top):
                self.assertEqual(told(value), exchange(value))

    def test_equal(self):
        told = mirror(TWO, ONE, FIFTH)
        self.assertTrue(told == Mirrored(TWO, [(FIFTH, FOURTH, FIFTH, False), (ONE, FIFTH, ONE, True)]))
        self.assertFalse(told == mirror(TWO, ONE, FOURTH))
        self.assertFalse(told == mirror(Ratio(3), ONE, FIFTH))
        self.assertFalse(told == Mirrored.plain(still(TWO)))
        self.assertFalse(Mirrored.plain(still(TWO)) == still(TWO))
        for value in any_values():
            self.assertFalse(told == value)
        told.rows().clear()
        self.assertEqual(len(told), len(told.rows()))
        self.assertIs(bool(told), True)


class WrongTest(unittest.TestCase):
    def check(self, error, top, rows, **told):
        with self.assertRaises(error) as caught:
            Mirrored(top, rows)
        for name, value in told.items():
            self.assertEqual(getattr(caught.exception, name), value)

    def test_tops_and_rows(self):
        good = (ONE, NINE, ONE, False)
        for value in [*any_values(), ONE, Ratio(1, 2)]:
            if not is_length(value):
                self.check(BadTop, value, None)
            if not isinstance(value, (list, tuple)):
                self.check(BadRow, TWO, value, at=-1)
            self.check(BadRow, TWO, [good, value, None], at=1)
            if not isinstance(value, bool):
                self.check(BadRow, TWO, [(ONE, FIFTH, ONE, value)], at=0)
        for row in [
            (ONE, NINE, ONE), (ONE, NINE, ONE, 1), (ONE, NINE, ONE, 0), (ONE, NINE, ONE, False, False), [*good],
            (ONE, ONE, ONE, True), (1, NINE, ONE, True), (ONE, NINE, 1, True), (ONE, 2, ONE, True),
        ]:
            self.check(BadRow, TWO, [row], at=0)

    def test_off_line_and_overlap(self):
        good = (ONE, NINE, ONE, True)
        for row in [(FIFTH, FIFTH, ONE, True), (ONE, NINE, Ratio(8, 9), True), (ONE, NINE, TWO, False), (ONE, FIFTH, FIFTH, True)]:
            self.check(OffLine, TWO, [good, good, row, row], at=2)
            self.check(BadRow, TWO, [row, None], at=1)
        self.check(Overlap, TWO, [good, (FOURTH, NINE, FOURTH, True), good], one=0, other=2)
        self.check(Overlap, TWO, [(FOURTH, NINE, FIFTH, False), good, (FIFTH, NINE, FIFTH, True), good], one=0, other=2)
        self.check(NotFilled, TWO, [(ONE, FIFTH, FOURTH, True)], missing=FOURTH)
        self.check(NotFilled, TWO, [], missing=TWO)


class BehindTest(unittest.TestCase):
    def test_one_behind_another(self):
        rng = random.Random(3)
        for _ in range(30):
            lengths = some_lengths(rng, rng.randint(1, 6))
            m, n, k = [some_mirrored(rng, lengths) for _ in range(3)]
            both = m >> n
            self.assertEqual(both.top, m.top)
            for value in plain_tones(rng, m.top):
                between = m(value)
                if between is None or n(between) is None or both(value) is None:
                    self.assertIn(fraction(value), [fraction(row[0]) for row in both.rows() + m.rows()])
                    continue
                self.assertEqual(both(value), n(between))
            self.assertEqual((m >> n) >> k, m >> (n >> k))
            stays = Mirrored.plain(still(m.top))
            self.assertEqual((m >> ~m, ~m >> m), (stays, stays))
            self.assertEqual((m >> stays, stays >> m), (m, m))
            self.assertEqual((~(m >> n), ~~m), (~n >> ~m, m))
            self.assertEqual(m.parity, parity_by_rows(m.rows()))

    def test_back(self):
        told = Mirrored(TWO, [(ONE, FIFTH, FOURTH, True), (FIFTH, FOURTH, ONE, False)])
        self.assertEqual((~told).rows(), [(ONE, FOURTH, FIFTH, False), (FOURTH, FIFTH, ONE, True)])
        self.assertEqual((~told)(told((5, 4))), (5, 4))

    def test_plain_ones(self):
        rng = random.Random(4)
        lengths = some_lengths(rng, 4)
        e, f = [Mirrored(multiplied(lengths), [(*row[:3], False) for row in some_mirror_rows(rng, lengths)]) for _ in range(2)]
        self.assertTrue(all(row[3] is False for row in (e >> f).rows()))
        one = fold(TWO, FIFTH)
        other = Swap(ONE, FIFTH, NINE).on(TWO)
        self.assertEqual(Mirrored.plain(one) >> Mirrored.plain(other), Mirrored.plain(one >> other))
        self.assertEqual(~Mirrored.plain(one), Mirrored.plain(~one))

    def test_other_line(self):
        one = mirror(TWO, ONE, TWO)
        with self.assertRaises(OtherLine):
            one >> mirror(Ratio(3), ONE, TWO)


class ParityTest(unittest.TestCase):
    def test_finer_rows(self):
        rng = random.Random(5)
        for _ in range(20):
            lengths = some_lengths(rng, rng.randint(1, 6))
            rows = some_mirror_rows(rng, lengths)
            told = Mirrored(multiplied(lengths), rows)
            self.assertEqual(parity_by_rows(rows), told.parity)
            self.assertEqual(parity_by_rows(finer(rng, rows)), told.parity)
            self.assertEqual([len(part) for part in told.parity], [15, 6, 6])
            self.assertTrue(all(isinstance(part, tuple) for part in (told.parity, *told.parity)))

    def test_added(self):
        rng = random.Random(6)
        odd = 0
        for _ in range(30):
            lengths = some_lengths(rng, rng.randint(1, 6))
            m, n = some_mirrored(rng, lengths), some_mirrored(rng, lengths)
            self.assertEqual((m >> n).parity, parities_added(m.parity, n.parity))
            self.assertEqual((~m).parity, m.parity)
            self.assertEqual(parities_added(m.parity, m.parity), NO_PARITY)
            self.assertEqual(parities_added(other=m.parity, one=NO_PARITY), m.parity)
            odd += m.parity != NO_PARITY
        self.assertGreater(odd, 10)

    def test_plain_ones(self):
        rng = random.Random(7)
        for _ in range(20):
            exchange = some_exchange(rng, rng.randint(1, 6))
            wedge = exchange.wedge
            parity = Mirrored.plain(exchange).parity
            self.assertEqual(parity, (tuple(number % 2 for number in wedge.pairs()), wedge.bits(), (0,) * 6))

    def test_single_mirrors(self):
        # the powers of 4/3 are 2 and -1
        crosses = tuple(0 for _ in PAIRS)
        self.assertEqual(mirror(TWO, ONE, FOURTH).parity, (crosses, (1, 1, 0, 0, 0, 0), (0, 1, 0, 0, 0, 0)))
        self.assertEqual(mirror(TWO, FOURTH, FOURTH).parity, mirror(TWO, ONE, FOURTH).parity)
        crosses = tuple(1 if pair == (0, 1) else 0 for pair in PAIRS)
        self.assertEqual(mirror(TWO, ONE, FIFTH).parity, (crosses, (1, 0, 0, 0, 0, 0), (1, 1, 0, 0, 0, 0)))
        self.assertEqual(mirror(Ratio(16), ONE, Ratio(16)).parity, NO_PARITY)


class TurnTest(unittest.TestCase):
    def check(self, top, turn):
        told = three_mirrors(top, turn)
        self.assertIsInstance(told, list)
        self.assertEqual([len([row for row in one.rows() if row[3]]) for one in told], [1, 1, 1])
        first, second, third = told
        self.assertEqual(first, mirror(top, turn.start, turn.first * turn.second))
        self.assertEqual(second, mirror(top, turn.start, turn.second))
        self.assertEqual(third, mirror(top, turn.start * turn.second, turn.first))
        turned = Mirrored.plain(turn.on(top))
        self.assertEqual(first >> second >> third, turned)
        parity = parities_added(parities_added(first.parity, second.parity), third.parity)
        self.assertEqual(parity, turned.parity)

    def test_turns(self):
        rng = random.Random(8)
        for _ in range(25):
            turn = Turn(multiplied(some_lengths(rng, rng.randint(0, 2))), *some_lengths(rng, 2))
            self.check(turn.end, turn)
            self.check(turn.end * NINE, turn)
        self.check(TWO, Turn(ONE, Ratio(7, 5), Ratio(10, 7)))
        self.assertEqual(three_mirrors(turn=Turn(ONE, NINE, NINE), top=TWO), three_mirrors(TWO, Turn(ONE, NINE, NINE)))

    def test_mirror(self):
        told = mirror(TWO, NINE, FOURTH)
        self.assertEqual(told.rows(), [(ONE, NINE, ONE, False), (NINE, FOURTH, NINE, True), (FIFTH, FOURTH, FIFTH, False)])
        self.assertEqual(~told, told)
        self.assertEqual(mirror(length=FOURTH, start=NINE, top=TWO), told)
        self.assertEqual(mirror(TWO, ONE, TWO).rows(), [(ONE, TWO, ONE, True)])
        self.assertEqual(mirror(TWO, FIFTH, FOURTH).rows()[1], (FIFTH, FOURTH, FIFTH, True))

    def test_wrong_values(self):
        for value in [*any_values(), Ratio(1, 2), ONE]:
            if not is_length(value):
                self.assertRaises(BadTop, mirror, value, None, None)
                self.assertRaises(BadTop, three_mirrors, value, Turn(ONE, NINE, NINE))
                with self.assertRaises(BadLength) as caught:
                    mirror(TWO, Ratio(5), value)
                self.assertEqual(caught.exception.at, 0)
            if not is_ratio(value) or value == Ratio(1, 2):
                self.assertRaises(BadStart, mirror, TWO, value, None)
        for start, length in [(ONE, Ratio(3)), (FIFTH, FIFTH), (TWO, NINE), (Ratio(5), NINE)]:
            with self.assertRaises(OffLine) as caught:
                mirror(TWO, start, length)
            self.assertEqual(caught.exception.at, 0)
        for turn in (Turn(ONE, FIFTH, FIFTH), Turn(TWO, NINE, NINE), Turn(FIFTH, NINE, FIFTH)):
            with self.assertRaises(OffLine) as caught:
                three_mirrors(TWO, turn)
            self.assertEqual(caught.exception.at, 0)


class TablesTest(unittest.TestCase):
    def test_table_and_bits(self):
        rng = random.Random(9)
        for _ in range(20):
            exchange = some_exchange(rng, rng.randint(1, 6))
            rows = [(start, length, start * factor, False) for start, length, factor in exchange.rows()]
            told = Mirrored(exchange.top, finer(rng, rows))
            self.assertEqual(told, Mirrored.plain(exchange))
            matrix = straight_matrix(exchange.rows())
            crosses = tuple(matrix[p][q] % 2 for p, q in PAIRS)
            self.assertEqual(told.parity, (crosses, exchange.wedge.bits(), (0,) * 6))

    def test_all_turns_as_mirrors(self):
        rng = random.Random(10)
        for _ in range(8):
            exchange = some_exchange(rng, 5)
            _, turns = resolved(exchange)
            done = still(exchange.top)
            mirrored = Mirrored.plain(done)
            parity = NO_PARITY
            for turn in turns:
                done = done >> turn.on(exchange.top)
                for one in three_mirrors(exchange.top, turn):
                    mirrored = mirrored >> one
                    parity = parities_added(parity, one.parity)
            self.assertEqual(mirrored, Mirrored.plain(done))
            self.assertEqual(mirrored.parity, parity)
            self.assertEqual(parity[0], tuple(number % 2 for number in exchange.wedge.pairs()))
            self.assertEqual(parity[2], (0,) * 6)
            value = tone(Fraction(1) + (fraction(exchange.top) - 1) * Fraction(617, 1009))
            self.assertEqual(mirrored(value), done(value))


if __name__ == "__main__":
    unittest.main()
