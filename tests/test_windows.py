"""Promises 64, 65, 66, 69 and 70: first returns, towers, windows told, windows within windows, what they owe."""

import random
import unittest
from fractions import Fraction

from tests.samples import (
    INTERVALS, ONE, TWO, any_values, edge_tones, fraction, is_exchange_of, some_exchange, some_tones, tone,
)
from turnsleft.errors import BadWindow, NotOnLine, TooLong
from turnsleft.exchanges import Exchange
from turnsleft.making import course_for
from turnsleft.moves import fold, still
from turnsleft.ratios import Ratio
from turnsleft.windows import Window

NINE = Ratio(9, 8)
FIFTH = Ratio(3, 2)
FOURTH = Ratio(4, 3)


def some_window(rng, exchange, wide=False):
    """A window of an exchange whose towers have not too many floors, with its ends."""
    while True:
        low = rng.choice([ONE, *[start for start, _, _ in exchange.rows()], rng.choice(INTERVALS)])
        high = low * rng.choice([FIFTH, FOURTH] if wide else INTERVALS)
        if rng.random() < 0.2:
            high = exchange.top
        if not low.below(exchange.top) or not low.below(high) or exchange.top.below(high):
            continue
        try:
            return Window(exchange, low=low, high=high), low, high
        except TooLong:
            continue


def return_by_steps(exchange, value, low, high):
    """The height of a tone and where it returns, step by step."""
    height = 0
    while True:
        value = exchange(value)
        height += 1
        if fraction(low) <= fraction(value) < fraction(high):
            return height, value


def tones_in(rng, low, high, exchange):
    """Tones of a window: its lowest one, some others, starts of rows and tones just ahead of them."""
    tones = [low.as_tone(), tone(fraction(high) - Fraction(1, 10**12))]
    tones.extend(some_tones(rng, exchange.top, 20))
    tones.extend(edge_tones(exchange))
    return [value for value in tones if fraction(low) <= fraction(value) < fraction(high)]


class ReturnTest(unittest.TestCase):
    def check(self, rng, exchange, window, low, high):
        seen = window.seen()
        self.assertTrue(is_exchange_of(seen, exchange.top))
        towers = window.towers()
        for value in tones_in(rng, low, high, exchange):
            height, back = return_by_steps(exchange, value, low, high)
            self.assertEqual(window.first_return(value), (height, back))
            self.assertEqual(seen(value), back)
            own = [many for start, length, many in towers if fraction(start) <= fraction(value) < fraction(start * length)]
            self.assertEqual(own, [height])
        for value in some_tones(rng, exchange.top):
            if not fraction(low) <= fraction(value) < fraction(high):
                self.assertEqual(seen(value), value)
                with self.assertRaises(NotOnLine) as caught:
                    window.first_return(value)
                self.assertIs(caught.exception.tone, value)

    def test_returns(self):
        rng = random.Random(1)
        for _ in range(40):
            exchange = some_exchange(rng, rng.randint(1, 6))
            self.check(rng, exchange, *some_window(rng, exchange))
        for by in (FIFTH, Ratio(7, 5), Ratio(81, 80)):
            exchange = fold(TWO, by)
            self.check(rng, exchange, *some_window(rng, exchange))

    def test_no_tones(self):
        window = Window(fold(TWO, FIFTH), low=NINE, high=FIFTH)
        for value in [*any_values(), (1, 1), (10, 8), (3, 2), (2, 1), [9, 8], (1, 0), Ratio(9, 8)]:
            with self.assertRaises(NotOnLine) as caught:
                window.first_return(value)
            self.assertIs(caught.exception.tone, value)
        self.assertEqual(window.first_return(tone=(9, 8)), window.first_return((9, 8)))


class TowersTest(unittest.TestCase):
    def check(self, exchange, window, low, high):
        towers = window.towers()
        floors = list(window.floors())
        self.assertEqual((len(window), repr(window)), (len(towers), f"Window({len(towers)} towers)"))
        self.assertLessEqual(len(towers), len(exchange) + 2)
        end = low
        for start, length, _ in towers:
            self.assertEqual(start, end)
            end = start * length
        self.assertEqual(end, high)
        # tower by tower, each floor is the image of the one ahead within one row, the base is floor 0
        self.assertEqual([floor[:2] for floor in floors], [(at, k) for at, tower in enumerate(towers) for k in range(tower[2])])
        for at, floor, start, length in floors:
            self.assertEqual(length, towers[at][1])
            if floor == 0:
                self.assertEqual(start, towers[at][0])
            else:
                self.assertEqual(exchange.image(*last), [(start, length)])
                self.assertTrue(start.below(low) or not start.below(high))
            rows = [row for row in exchange.rows() if not start.below(row[0]) and not (row[0] * row[1]).below(start * length)]
            self.assertEqual(len(rows), 1)
            last = (start, length)
        # all floors lie apart
        ordered = sorted(floors, key=lambda floor: fraction(floor[2]))
        for one, other in zip(ordered, ordered[1:]):
            self.assertFalse(other[2].below(one[2] * one[3]))

    def check_longest(self, exchange, window):
        """Two neighbouring bases have other heights, or are led apart, or some rows part their images."""
        towers = window.towers()
        floors = list(window.floors())
        for at in range(len(towers) - 1):
            if towers[at][2] != towers[at + 1][2]:
                continue
            one = [floor[2] for floor in floors if floor[0] == at]
            other = [floor[2] for floor in floors if floor[0] == at + 1]
            starts = [row[0] for row in exchange.rows()]
            parted = [upper in starts and lower * towers[at][1] == upper for lower, upper in zip(one, other)]
            self.assertTrue(any(parted))

    def test_towers(self):
        rng = random.Random(2)
        for _ in range(60):
            exchange = some_exchange(rng, rng.randint(1, 8))
            window, low, high = some_window(rng, exchange)
            self.check(exchange, window, low, high)
            self.check_longest(exchange, window)

    def test_fold(self):
        window = Window(fold(TWO, FIFTH), low=ONE, high=FIFTH)
        self.assertEqual(window.towers(), [(ONE, FOURTH, 2), (FOURTH, NINE, 1)])
        self.assertEqual(list(window.floors()), [(0, 0, ONE, FOURTH), (0, 1, FIFTH, FOURTH), (1, 0, FOURTH, NINE)])

    def test_new_lists(self):
        window = Window(fold(TWO, FIFTH), low=ONE, high=FIFTH)
        window.towers().clear()
        self.assertEqual(len(window.towers()), 2)

    def test_six_hundred_floors(self):
        # a tower of 600 floors, and one of 601
        window = Window(fold(TWO.power(200).power(3), TWO), low=ONE, high=TWO)
        self.assertEqual(window.towers(), [(ONE, TWO, 600)])
        self.assertEqual(window.first_return((3, 2)), (600, (3, 2)))
        self.check(fold(TWO.power(200).power(3), TWO), window, ONE, TWO)
        with self.assertRaises(TooLong) as caught:
            Window(fold(TWO.power(200).power(3) * TWO, TWO), low=ONE, high=TWO)
        self.assertEqual(caught.exception.most, 600)

    def test_floors_of_several_towers(self):
        # of x from 1 up to 2, those below 3/2 have one floor more
        exchange = fold(TWO.power(150).power(2) * FIFTH, TWO)
        window = Window(exchange, low=ONE, high=Ratio(4))
        self.assertEqual([height for _, _, height in window.towers()], [1, 300, 299])
        self.check(exchange, window, ONE, Ratio(4))
        with self.assertRaises(TooLong) as caught:
            Window(exchange, low=ONE, high=TWO)
        self.assertEqual(caught.exception.most, 600)
        window = Window(fold(TWO.power(150).power(2) // TWO * FIFTH, TWO), low=ONE, high=TWO)
        self.assertEqual([height for _, _, height in window.towers()], [300, 299])

    def test_many_rows(self):
        # a returned exchange with more rows than floors may be
        length = Ratio(1001, 1000)
        rows = []
        start = ONE
        for _ in range(305):
            rows.append((start, length, length))
            rows.append((start * length, length, ONE // length))
            start = start * length * length
        exchange = Exchange(start, rows)
        self.assertEqual(len(exchange), 610)
        self.assertRaises(TooLong, Window, exchange, low=ONE, high=start)
        part = length.power(200).power(3)
        self.assertEqual(len(Window(exchange, low=ONE, high=part)), 600)
        self.assertRaises(TooLong, Window, exchange, low=ONE, high=part * length * length)


class ToldTest(unittest.TestCase):
    def test_whole_line(self):
        rng = random.Random(3)
        for _ in range(15):
            exchange = some_exchange(rng, rng.randint(1, 7))
            top = exchange.top
            window = Window(exchange, low=ONE, high=top)
            self.assertEqual((window.low, window.high, len(window)), (ONE, top, len(exchange)))
            self.assertEqual(window.towers(), [(start, length, 1) for start, length, _ in exchange.rows()])
            self.assertEqual((window.seen(), window.shift(), window.rest()), (exchange, still(top), still(top)))
            self.assertEqual(window.alone(), exchange)
            self.assertEqual(window.seen().owed, exchange.owed)

    def test_alone(self):
        rng = random.Random(4)
        for _ in range(25):
            exchange = some_exchange(rng, rng.randint(1, 6))
            window, low, high = some_window(rng, exchange)
            alone = window.alone()
            self.assertTrue(is_exchange_of(alone, high // low))
            seen = window.seen()
            for value in some_tones(rng, high // low):
                moved = tone(fraction(value) * fraction(low))
                self.assertEqual(alone(value), tone(fraction(seen(moved)) / fraction(low)))
            self.assertEqual(alone.wedge, seen.wedge)

    def test_truth(self):
        self.assertIs(bool(Window(still(TWO), low=ONE, high=TWO)), True)

    def test_bad_windows(self):
        exchange = fold(TWO, FIFTH)
        for value in [*any_values(), Ratio(1, 2), Ratio(3), TWO]:
            if not (isinstance(value, Ratio) and NINE.below(value) and not TWO.below(value)):
                self.assertRaises(BadWindow, Window, exchange, low=NINE, high=value)
            if not (isinstance(value, Ratio) and not value.below(ONE) and value.below(TWO)):
                self.assertRaises(BadWindow, Window, exchange, low=value, high=TWO)
        for low, high in [(NINE, NINE), (FIFTH, NINE), (Ratio(8, 9), NINE), (ONE, Ratio(5, 2)), (TWO, Ratio(4)), (ONE, None)]:
            self.assertRaises(BadWindow, Window, exchange, low=low, high=high)
        # a wrong end counts ahead of too many floors
        great = fold(TWO.power(200).power(4), TWO)
        self.assertRaises(TooLong, Window, great, low=ONE, high=TWO)
        self.assertRaises(BadWindow, Window, great, low=Ratio(1, 2), high=ONE)
        self.assertRaises(BadWindow, Window, great, low=TWO, high=None)

    def test_keywords(self):
        self.assertRaises(TypeError, Window, fold(TWO, FIFTH), ONE, TWO)
        self.assertRaises(TypeError, Window, fold(TWO, FIFTH))
        self.assertEqual(Window(high=TWO, exchange=still(TWO), low=NINE).towers(), [(NINE, TWO // NINE, 1)])


class WithinTest(unittest.TestCase):
    def test_inner_windows(self):
        rng = random.Random(5)
        for _ in range(20):
            exchange = some_exchange(rng, rng.randint(2, 6))
            outer, low, high = some_window(rng, exchange, wide=True)
            cuts = [start for start, _, _ in outer.towers()] + [high]
            first, last = sorted(rng.sample(range(len(cuts)), 2)) if len(cuts) > 2 else (0, len(cuts) - 1)
            try:
                inner = Window(exchange, low=cuts[first], high=cuts[last])
            except TooLong:
                continue
            own = Window(outer.seen(), low=cuts[first], high=cuts[last])
            self.assertEqual(own.seen(), inner.seen())
            self.assertEqual(own.alone(), inner.alone())
            alone = Window(outer.alone(), low=cuts[first] // low, high=cuts[last] // low)
            self.assertEqual(alone.alone(), inner.alone())

    def test_parts(self):
        rng = random.Random(6)
        for _ in range(30):
            exchange = some_exchange(rng, rng.randint(1, 6))
            window, low, high = some_window(rng, exchange)
            seen, shift, rest = window.seen(), window.shift(), window.rest()
            for part in (seen, shift, rest):
                self.assertTrue(is_exchange_of(part, exchange.top))
            self.assertEqual(rest >> shift >> seen, exchange)
            self.assertTrue(shift.fair)
            self.assertEqual((seen.wedge + rest.wedge).pairs(), exchange.wedge.pairs())
            self.assertEqual((rest.wedge + shift.wedge + seen.wedge).bits(), exchange.wedge.bits())
            floors = list(window.floors())
            for at, floor, start, length in floors:
                self.assertEqual(rest.image(start, length), [(start, length)])
                goal = start if window.towers()[at][2] == 1 else None
                following = [other[2] for other in floors if other[:2] == (at, floor + 1)]
                base = window.towers()[at][0]
                self.assertEqual(shift.image(start, length), [(goal or (following + [base])[0], length)])


class OwedTest(unittest.TestCase):
    def test_owed(self):
        rng = random.Random(7)
        for _ in range(25):
            exchange = some_exchange(rng, rng.randint(2, 7))
            window, low, high = some_window(rng, exchange)
            self.assertLessEqual(exchange.owed, window.seen().owed + window.rest().owed)

    def test_through_the_tower(self):
        rng = random.Random(8)
        for _ in range(15):
            exchange = some_exchange(rng, rng.randint(2, 6))
            window, low, high = some_window(rng, exchange)
            floors = list(window.floors())
            for at, (start, length, height) in enumerate(window.towers()):
                value = tone((fraction(start) + fraction(start * length)) / 2)
                way = [value, *exchange.walk(value, height)]
                own = [floor for floor in floors if floor[0] == at]
                for step, (_, _, begin, along) in zip(way, own):
                    self.assertTrue(fraction(begin) <= fraction(step) < fraction(begin * along))
                self.assertEqual(window.first_return(value), (height, way[-1]))

    def test_courses_for_shifts(self):
        rng = random.Random(9)
        done = 0
        while done < 12:
            exchange = some_exchange(rng, rng.randint(2, 4))
            window, low, high = some_window(rng, exchange)
            if len(list(window.floors())) > 40:
                continue
            shift = window.shift()
            self.assertEqual(course_for(shift).made(), shift)
            done += 1
        shift = Window(fold(TWO, FIFTH), low=ONE, high=Ratio(81, 80)).shift()
        self.assertEqual(course_for(shift).made(), shift)


if __name__ == "__main__":
    unittest.main()
