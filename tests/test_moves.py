"""Promises 17 to 20: turns, swaps, folds, lengths arranged, still, commutators and smaller turns."""

import random
import unittest

from tests.samples import (
    INTERVALS, ONE, TWO, any_values, edge_tones, fraction, is_exchange_of, shuffled, some_lengths, some_pair, some_ratio,
    some_swap, some_tones, tone,
)
from turnsleft.errors import (
    BadLength, BadOrder, BadRatio, BadStart, BadTop, Meet, OffLine, OtherLine,
)
from turnsleft.moves import Swap, Turn, arranged, commutator, fold, still
from turnsleft.ratios import Ratio, multiplied
from turnsleft.wedges import Wedge, wedge_of

TURN = Turn(ONE, Ratio(9, 8), Ratio(10, 9))
SWAP = Swap(ONE, Ratio(3, 2), Ratio(9, 8))
NO_RATIOS = [value for value in any_values() if not isinstance(value, Ratio)]


def some_turn(rng):
    """A turn of two intervals."""
    return Turn(multiplied(some_lengths(rng, rng.randint(0, 3))), *some_lengths(rng, 2))


class MoveTest(unittest.TestCase):
    def raises(self, kind, function, *values, **attributes):
        with self.assertRaises(kind) as caught:
            function(*values)
        for name, value in attributes.items():
            self.assertEqual(getattr(caught.exception, name), value)


class TurnTest(MoveTest):
    def test_told(self):
        self.assertEqual((TURN.start, TURN.first, TURN.second), (ONE, Ratio(9, 8), Ratio(10, 9)))
        self.assertEqual(TURN.end, Ratio(5, 4))
        self.assertEqual(TURN.wedge.text(), "2.3=4 2.5=-3 3.5=2 2")
        self.assertEqual(repr(TURN), "Turn(1, 9/8, 10/9)")
        self.assertEqual(TURN, Turn(start=ONE, second=Ratio(10, 9), first=Ratio(9, 8)))
        self.assertNotEqual(TURN, Turn(ONE, Ratio(10, 9), Ratio(9, 8)))
        self.assertNotEqual(TURN, Turn(TWO, Ratio(9, 8), Ratio(10, 9)))
        self.assertNotEqual(TURN, Turn(ONE, Ratio(9, 8), Ratio(9, 8)))
        for value in any_values() + [SWAP, (ONE, Ratio(9, 8), Ratio(10, 9))]:
            self.assertIs(TURN == value, False)

    def test_refused(self):
        for value in NO_RATIOS + [Ratio(1, 2), Ratio(80, 81)]:
            self.raises(BadStart, Turn, value, None, None)
        for value in NO_RATIOS + [ONE, Ratio(1, 2)]:
            self.raises(BadLength, Turn, ONE, value, None, at=0)
            self.raises(BadLength, Turn, ONE, TWO, value, at=1)

    def test_on(self):
        rng = random.Random(1)
        for _ in range(40):
            turn = some_turn(rng)
            top = turn.end * rng.choice(INTERVALS + [ONE])
            exchange = turn.on(top)
            self.assertTrue(is_exchange_of(exchange, top))
            self.assertEqual(exchange.wedge, turn.wedge)
            self.assertEqual(turn.wedge, wedge_of(turn.first, turn.second))
            low, middle, end = fraction(turn.start), fraction(turn.start * turn.first), fraction(turn.end)
            for value in some_tones(rng, top) + edge_tones(exchange):
                place = fraction(value)
                if low <= place < middle:
                    place *= fraction(turn.second)
                elif middle <= place < end:
                    place /= fraction(turn.first)
                self.assertEqual(exchange(value), tone(place))

    def test_on_refused(self):
        for value in NO_RATIOS + [ONE, Ratio(1, 2)]:
            self.raises(BadTop, TURN.on, value)
            self.raises(BadTop, SWAP.on, value)
        self.raises(OffLine, TURN.on, Ratio(6, 5), at=0)
        self.assertEqual(TURN.on(top=Ratio(5, 4)).rows()[0], (ONE, Ratio(9, 8), Ratio(10, 9)))
        self.assertEqual(len(Turn(ONE, TWO, TWO).on(Ratio(4))), 2)
        self.raises(OffLine, SWAP.on, Ratio(5, 3), at=0)
        self.assertEqual(len(SWAP.on(Ratio(27, 16))), 3)


class SmallerTest(MoveTest):
    def test_example(self):
        self.assertEqual(repr(TURN.smaller()), "(Swap(81/80, 9/8, 10/9), Turn(1, 81/80, 10/9))")
        self.assertIsInstance(TURN.smaller(), tuple)
        other = Turn(Ratio(3, 2), Ratio(10, 9), Ratio(9, 8))
        self.assertEqual(repr(other.smaller()), "(Swap(3/2, 5/3, 10/9), Turn(5/3, 10/9, 81/80))")
        self.assertIsNone(Turn(TWO, Ratio(9, 8), Ratio(18, 16)).smaller())

    def test_swap_and_smaller_turn(self):
        rng = random.Random(2)
        for _ in range(60):
            turn = some_turn(rng)
            top = turn.end * rng.choice(INTERVALS)
            found = turn.smaller()
            if turn.first == turn.second:
                self.assertIsNone(found)
                continue
            swap, smaller = found
            self.assertEqual(swap.on(top) >> smaller.on(top), turn.on(top))
            self.assertEqual(smaller.wedge.pairs(), turn.wedge.pairs())
            self.assertTrue((smaller.first * smaller.second).below(turn.first * turn.second))

    def test_many_times(self):
        turn = Turn(ONE, Ratio(3, 2), Ratio(4, 3))
        for _ in range(40):
            turn = turn.smaller()[1]
        self.assertEqual(turn.wedge.pairs(), wedge_of(Ratio(3, 2), Ratio(4, 3)).pairs())


class SwapTest(MoveTest):
    def test_told(self):
        self.assertEqual((SWAP.first, SWAP.second, SWAP.length), (ONE, Ratio(3, 2), Ratio(9, 8)))
        self.assertEqual(SWAP.end, Ratio(27, 16))
        self.assertEqual(SWAP.wedge, Wedge([0] * 15, [1, 0, 0, 0, 0, 0]))
        self.assertEqual(repr(SWAP), "Swap(1, 3/2, 9/8)")
        self.assertEqual(SWAP.on(TWO).text(), "2: 1 9/8 3/2, 9/8 4/3 1, 3/2 9/8 2/3, 27/16 32/27 1")
        self.assertEqual(SWAP, Swap(length=Ratio(9, 8), second=Ratio(3, 2), first=ONE))
        self.assertNotEqual(SWAP, Swap(ONE, TWO, Ratio(9, 8)))
        self.assertNotEqual(SWAP, Swap(Ratio(4, 3), Ratio(3, 2), Ratio(9, 8)))
        self.assertNotEqual(SWAP, Swap(ONE, Ratio(3, 2), Ratio(10, 9)))
        for value in any_values() + [TURN]:
            self.assertIs(SWAP == value, False)

    def test_refused(self):
        for value in NO_RATIOS + [Ratio(1, 2)]:
            self.raises(BadStart, Swap, value, ONE, None)
            self.raises(BadStart, Swap, ONE, value, None)
        for value in NO_RATIOS + [ONE, Ratio(1, 2)]:
            self.raises(BadLength, Swap, TWO, ONE, value, at=0)
        self.raises(Meet, Swap, ONE, Ratio(9, 8), Ratio(5, 4))
        self.raises(Meet, Swap, TWO, ONE, Ratio(9, 8))
        self.raises(Meet, Swap, ONE, ONE, Ratio(9, 8))

    def test_touching(self):
        swap = Swap(ONE, Ratio(9, 8), Ratio(9, 8))
        self.assertEqual(swap.on(TWO), Turn(ONE, Ratio(9, 8), Ratio(9, 8)).on(TWO))

    def test_on(self):
        rng = random.Random(3)
        for _ in range(40):
            top = Ratio(8)
            swap = some_swap(rng, top)
            exchange = swap.on(top)
            self.assertTrue(is_exchange_of(exchange, top))
            self.assertEqual(exchange.wedge, swap.wedge)
            self.assertEqual(exchange.wedge.bits(), swap.length.bits())
            self.assertTrue(exchange.fair)
            self.assertEqual(exchange >> exchange, still(top))
            shift = fraction(swap.second) / fraction(swap.first)
            for value in some_tones(rng, top) + edge_tones(exchange):
                place = fraction(value)
                if fraction(swap.first) <= place < fraction(swap.first * swap.length):
                    place *= shift
                elif fraction(swap.second) <= place < fraction(swap.end):
                    place /= shift
                self.assertEqual(exchange(value), tone(place))


class FoldTest(MoveTest):
    def test_named_cases(self):
        self.assertEqual(fold(TWO, Ratio(3, 2)).text(), "2: 1 4/3 3/2, 4/3 3/2 3/4")
        self.assertEqual(fold(top=TWO, by=ONE), still(TWO))
        self.assertEqual(fold(TWO, Ratio(8)), still(TWO))
        self.assertEqual(fold(TWO, Ratio(1, 2)), still(TWO))
        self.assertEqual(fold(TWO, Ratio(3, 4)), fold(TWO, Ratio(3, 2)))
        self.assertEqual(fold(TWO, Ratio(12)), fold(TWO, Ratio(3, 16)))
        self.assertEqual(fold(Ratio(3), TWO).text(), "3: 1 3/2 2, 3/2 2 2/3")

    def test_refused(self):
        for value in NO_RATIOS + [ONE, Ratio(1, 2)]:
            self.raises(BadTop, fold, value, None)
        for value in NO_RATIOS:
            self.raises(BadRatio, fold, TWO, value)

    def test_by_tones(self):
        rng = random.Random(4)
        for _ in range(40):
            top = rng.choice(INTERVALS)
            by = some_ratio(rng, 1)
            exchange = fold(top, by)
            self.assertTrue(is_exchange_of(exchange, top))
            self.assertEqual(exchange.wedge.pairs(), wedge_of(top, by).pairs())
            self.assertLessEqual(len(exchange), 2)
            for value in some_tones(rng, top, 4) + edge_tones(exchange):
                place = fraction(value) * fraction(by)
                while place >= fraction(top):
                    place /= fraction(top)
                while place < 1:
                    place *= fraction(top)
                self.assertEqual(exchange(value), tone(place))

    def test_added(self):
        rng = random.Random(5)
        for _ in range(15):
            top = rng.choice(INTERVALS)
            one, two = some_ratio(rng, 1), some_ratio(rng, 1)
            self.assertEqual(fold(top, one) >> fold(top, two), fold(top, one * two))
            self.assertEqual(~fold(top, one), fold(top, ONE // one))

    def test_far_away(self):
        self.assertEqual(fold(Ratio(81, 80), Ratio(2**40)).top, Ratio(81, 80))
        self.assertEqual(fold(TWO, Ratio.of_powers([40, -40, 0, 0, 40, 0])), fold(TWO, Ratio.of_powers([0, -40, 0, 0, 40, 0])))


class ArrangedTest(MoveTest):
    def test_named_cases(self):
        lengths = [Ratio(9, 8), Ratio(10, 9), Ratio(16, 15)]
        exchange = arranged(lengths, [2, 0, 1])
        self.assertEqual(exchange.top, Ratio(4, 3))
        self.assertEqual(exchange((1, 1)), (16, 15))
        self.assertEqual(exchange((5, 4)), (1, 1))
        self.assertEqual(arranged(lengths, [0, 1, 2]), still(Ratio(4, 3)))
        self.assertEqual(arranged([TWO], [0]), still(TWO))
        self.assertEqual(arranged(tuple(lengths), (2, 0, 1)), exchange)
        self.assertEqual(arranged(order=[2, 0, 1], lengths=lengths), exchange)
        self.assertEqual(lengths, [Ratio(9, 8), Ratio(10, 9), Ratio(16, 15)])

    def test_modes_are_folds(self):
        rng = random.Random(6)
        for _ in range(15):
            lengths = some_lengths(rng, 6)
            k = rng.randint(0, 5)
            order = list(range(k, 6)) + list(range(k))
            self.assertEqual(arranged(lengths, order), fold(multiplied(lengths), ONE // multiplied(lengths[:k])))

    def test_by_tones(self):
        rng = random.Random(7)
        for _ in range(25):
            many = rng.randint(1, 9)
            lengths = some_lengths(rng, many)
            order = shuffled(rng, many)
            exchange = arranged(lengths, order)
            self.assertTrue(is_exchange_of(exchange, multiplied(lengths)))
            for at in range(many):
                place = order.index(at)
                low = multiplied(lengths[:at])
                image = multiplied([lengths[other] for other in order[:place]])
                self.assertEqual(exchange(low.as_tone()), image.as_tone())

    def test_refused(self):
        for value in any_values():
            if not isinstance(value, (list, tuple)) or not value:
                self.raises(BadLength, arranged, value, None, at=-1)
            if not isinstance(value, Ratio):
                self.raises(BadLength, arranged, [TWO, value, None], None, at=1)
        self.raises(BadLength, arranged, [TWO, TWO, ONE], [0], at=2)
        self.raises(BadLength, arranged, (Ratio(1, 2),), [0], at=0)
        lengths = [TWO, Ratio(3, 2)]
        wrong = [[0], [0, 1, 2], [0, 0], [1, 2], [-1, 0], [False, True], [0, True], [0, None], ["0", "1"], [0, [1]], "01", {0, 1}]
        for value in wrong + any_values():
            self.raises(BadOrder, arranged, lengths, value)
        self.raises(BadOrder, arranged, [TWO], [False])

    def test_long_lists(self):
        rng = random.Random(8)
        lengths = some_lengths(rng, 400)
        exchange = arranged(lengths, list(range(399, -1, -1)))
        self.assertEqual(exchange >> arranged(lengths[::-1], list(range(399, -1, -1))), still(exchange.top))


class StillTest(MoveTest):
    def test_still(self):
        exchange = still(top=TWO)
        self.assertEqual(exchange.rows(), [(ONE, TWO, ONE)])
        self.assertEqual(exchange((17, 9)), (17, 9))
        for value in NO_RATIOS + [ONE, Ratio(1, 2)]:
            self.raises(BadTop, still, value)


class CommutatorTest(MoveTest):
    def test_commutators(self):
        rng = random.Random(9)
        for _ in range(20):
            e, f = some_pair(rng)
            found = commutator(e, f)
            self.assertEqual(found, e >> f >> ~e >> ~f)
            self.assertFalse(found.wedge)
            for value in some_tones(rng, e.top, 4):
                self.assertEqual(found(value), (~f)((~e)(f(e(value)))))
            self.assertEqual(commutator(e=e, f=e), still(e.top))
        self.raises(OtherLine, commutator, still(TWO), still(Ratio(3)))


if __name__ == "__main__":
    unittest.main()
