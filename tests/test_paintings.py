"""Promises 60, 61 and 68: paintings told, led to one another, and blind to turns."""

import random
import unittest
from fractions import Fraction

from tests.samples import (
    INTERVALS, ONE, TWO, any_values, fraction, shuffled, some_exchange, some_lengths, some_pair, some_tones, tone,
)
from turnsleft.courses import Course
from turnsleft.errors import BadRow, BadTop, NotFilled, NotOnLine, OtherLine, Unlike
from turnsleft.moves import Turn, fold, still
from turnsleft.paintings import Painting
from turnsleft.ratios import Ratio, multiplied

FIFTH = Ratio(3, 2)
FOURTH = Ratio(4, 3)
COLOURS = ["red", "blue", "a", "zzzzzz", "green"]


def some_painting(rng, top, many=5):
    """A painting of a line with at most so many stripes and some colours."""
    stripes = []
    left = top
    for _ in range(many - 1):
        length = rng.choice(INTERVALS)
        if length.below(left):
            stripes.append((length, rng.choice(COLOURS[:3])))
            left = left // length
    return Painting(top, [*stripes, (left, rng.choice(COLOURS))])


def colour_by_stripes(stripes, value):
    """The colour of a tone, told by fractions alone."""
    end = Fraction(1)
    for length, colour in stripes:
        end = end * fraction(length)
        if fraction(value) < end:
            return colour
    return None


def repainted(rng, painting):
    """A painting with the same amounts: the stripes are cut and laid in another order."""
    stripes = []
    for length, colour in painting.stripes():
        part = rng.choice([ratio for ratio in INTERVALS if ratio.below(length)] or [length])
        stripes.append((part, colour))
        if part != length:
            stripes.append((length // part, colour))
    return Painting(painting.top, [stripes[at] for at in shuffled(rng, len(stripes))])


class ToldTest(unittest.TestCase):
    def test_joined(self):
        nine = Ratio(9, 8)
        painting = Painting(TWO, [(nine, "red"), (nine, "red"), (Ratio(32, 27), "blue"), (FOURTH, "red")])
        self.assertEqual(painting.top, TWO)
        self.assertEqual(painting.stripes(), [(nine * nine, "red"), (Ratio(32, 27), "blue"), (FOURTH, "red")])
        self.assertEqual((len(painting), repr(painting)), (3, "Painting(3 stripes)"))
        self.assertEqual(painting.amounts(), {"blue": Ratio(32, 27), "red": nine * nine * FOURTH})
        self.assertIs(bool(painting), True)

    def test_one_stripe(self):
        for stripes in ([(TWO, "a")], ((TWO, "a"),), [(FIFTH, "a"), (FOURTH, "a")]):
            painting = Painting(TWO, stripes)
            self.assertEqual((painting.stripes(), painting.amounts()), ([(TWO, "a")], {"a": TWO}))
            self.assertEqual((len(painting), repr(painting)), (1, "Painting(1 stripes)"))
            self.assertEqual(painting.after(fold(TWO, FIFTH)), painting)
            self.assertEqual(painting.course_to(painting), Course(TWO, []))

    def test_amounts_in_order(self):
        rng = random.Random(1)
        for _ in range(20):
            painting = some_painting(rng, Ratio(rng.choice([2, 3, 12])), 8)
            amounts = painting.amounts()
            self.assertEqual(list(amounts), sorted({colour for _, colour in painting.stripes()}))
            self.assertEqual(multiplied(list(amounts.values())), painting.top)
            for colour in amounts:
                own = [length for length, other in painting.stripes() if other == colour]
                self.assertEqual(amounts[colour], multiplied(own))

    def test_colours(self):
        rng = random.Random(2)
        for _ in range(10):
            painting = some_painting(rng, Ratio(3))
            starts = [ONE]
            for length, _ in painting.stripes():
                starts.append(starts[-1] * length)
            for value in [*some_tones(rng, painting.top), *[start.as_tone() for start in starts[:-1]], (10**9 - 1, 10**9)]:
                if fraction(value) >= 1:
                    self.assertEqual(painting.colour(value), colour_by_stripes(painting.stripes(), value))
        painting = Painting(TWO, [(FIFTH, "red"), (FOURTH, "blue")])
        self.assertEqual([painting.colour((1, 1)), painting.colour((3, 2)), painting.colour(tone=(149, 100))], ["red", "blue", "red"])
        for value in [*any_values(), (2, 1), (1, 2), (6, 4), (3, 1), [3, 2], (True, 1), Ratio(3, 2)]:
            with self.assertRaises(NotOnLine) as caught:
                painting.colour(value)
            self.assertIs(caught.exception.tone, value)

    def test_after(self):
        rng = random.Random(3)
        for _ in range(20):
            exchange = some_exchange(rng, rng.randint(1, 6))
            painting = some_painting(rng, exchange.top)
            after = painting.after(exchange)
            self.assertIsInstance(after, Painting)
            self.assertEqual(after.amounts(), painting.amounts())
            for value in some_tones(rng, exchange.top):
                self.assertEqual(after.colour(exchange(value)), painting.colour(value))
            neighbours = [colour for _, colour in after.stripes()]
            self.assertTrue(all(one != two for one, two in zip(neighbours, neighbours[1:])))
            self.assertEqual(after.after(~exchange), painting)
        painting = Painting(TWO, [(FIFTH, "red"), (FOURTH, "blue")])
        self.assertEqual(painting.after(exchange=fold(TWO, FOURTH)), Painting(TWO, [(FOURTH, "blue"), (FIFTH, "red")]))
        self.assertRaises(OtherLine, painting.after, still(Ratio(3)))

    def test_equal(self):
        painting = Painting(TWO, [(FIFTH, "red"), (FOURTH, "blue")])
        self.assertTrue(painting == Painting(TWO, [(FOURTH, "red"), (Ratio(9, 8), "red"), (FOURTH, "blue")]))
        self.assertFalse(painting == Painting(TWO, [(FIFTH, "blue"), (FOURTH, "red")]))
        self.assertFalse(painting == Painting(TWO, [(FOURTH, "red"), (FIFTH, "blue")]))
        self.assertFalse(Painting(TWO, [(TWO, "a")]) == Painting(Ratio(3), [(Ratio(3), "a")]))
        for value in any_values():
            self.assertFalse(painting == value)

    def test_new_lists_and_dicts(self):
        stripes = [(FIFTH, "red"), (FOURTH, "blue")]
        painting = Painting(TWO, stripes)
        stripes.pop()
        painting.stripes().pop()
        painting.amounts().clear()
        self.assertEqual(painting.stripes(), [(FIFTH, "red"), (FOURTH, "blue")])
        self.assertEqual(painting.amounts(), {"blue": FOURTH, "red": FIFTH})


class WrongTest(unittest.TestCase):
    def check(self, error, top, stripes, **told):
        with self.assertRaises(error) as caught:
            Painting(top, stripes)
        for name, value in told.items():
            self.assertEqual(getattr(caught.exception, name), value)

    def test_wrong_values(self):
        for value in [*any_values(), ONE, Ratio(1, 2)]:
            if not (isinstance(value, Ratio) and ONE.below(value)):
                self.check(BadTop, value, None)
            if not isinstance(value, (list, tuple)):
                self.check(BadRow, TWO, value, at=-1)
            self.check(BadRow, TWO, [(FIFTH, "red"), value, None], at=1)
            if value != "a":
                self.check(BadRow, TWO, [(FIFTH, "red"), (FIFTH, "red"), (FIFTH, value)], at=2)

    def test_wrong_stripes(self):
        for stripe in [
            [FIFTH, "red"], (FIFTH, "red", "red"), (ONE, "red"), (FOURTH.power(-1), "red"), (FIFTH, "Red"), (FIFTH, ""),
            (FIFTH, "yellows"), (FIFTH, "a b"), (FIFTH, "a1"), ("red", FIFTH), (2, "red"),
        ]:
            self.check(BadRow, TWO, [stripe], at=0)
        # a wrong stripe counts ahead of what is missing, and a wrong top ahead of both
        self.check(BadRow, TWO, [(TWO, "a"), (TWO, "a"), (2, "a")], at=2)
        self.check(BadTop, 2, [(2, "a")])

    def test_not_filled(self):
        self.check(NotFilled, TWO, [(FIFTH, "red")], missing=FOURTH)
        self.check(NotFilled, TWO, [], missing=TWO)
        self.check(NotFilled, TWO, [(FIFTH, "red"), (FIFTH, "blue")], missing=Ratio(8, 9))


class LedTest(unittest.TestCase):
    def check(self, one, other):
        course = one.course_to(other)
        self.assertIsInstance(course, Course)
        self.assertEqual((course.top, course.room), (one.top, one.top))
        self.assertEqual(one.after(course.made()), other)
        self.assertEqual(one.course_to(other=other), course)

    def test_same_amounts(self):
        rng = random.Random(4)
        for _ in range(60):
            one = some_painting(rng, Ratio(rng.choice([2, 3, 12])), rng.randint(1, 12))
            self.check(one, repainted(rng, one))
        for lengths in (some_lengths(rng, 6), some_lengths(rng, 12)):
            top = multiplied(lengths)
            one = Painting(top, list(zip(lengths, ["a", "b"] * 6)))
            self.check(one, repainted(rng, one))
            self.check(one, one)

    def test_many_stripes(self):
        rng = random.Random(5)
        lengths = some_lengths(rng, 200)
        one = Painting(multiplied(lengths), [(length, rng.choice(COLOURS)) for length in lengths])
        self.check(one, repainted(rng, one))

    def test_one_long_stripe(self):
        # little by little, as little fits ahead of the long stripe
        nine = Ratio(9, 8)
        one = Painting(Ratio(16), [(nine, "a"), (Ratio(16) // nine, "b")])
        self.check(one, Painting(Ratio(16), [(Ratio(16) // nine, "b"), (nine, "a")]))
        self.check(Painting(Ratio(16), [(Ratio(16) // nine, "b"), (nine, "a")]), one)

    def test_unlike(self):
        one = Painting(TWO, [(FIFTH, "red"), (FOURTH, "blue")])
        for stripes, colour in [
            ([(FOURTH, "red"), (FIFTH, "blue")], "blue"),
            ([(FIFTH, "red"), (FOURTH, "green")], "blue"),
            ([(FIFTH, "red"), (FOURTH, "a")], "a"),
            ([(FIFTH, "rod"), (FOURTH, "blue")], "red"),
            ([(FIFTH, "pink"), (FOURTH, "blue")], "pink"),
            ([(FIFTH, "red"), (Ratio(9, 8), "blue"), (Ratio(32, 27), "zz")], "blue"),
            ([(TWO, "c")], "blue"),
        ]:
            with self.assertRaises(Unlike) as caught:
                one.course_to(Painting(TWO, stripes))
            self.assertEqual(caught.exception.colour, colour)

    def test_other_line(self):
        one = Painting(TWO, [(TWO, "a")])
        self.assertRaises(OtherLine, one.course_to, Painting(Ratio(3), [(Ratio(3), "b")]))


class NoTurnTest(unittest.TestCase):
    def test_behind_an_exchange(self):
        rng = random.Random(6)
        for _ in range(30):
            exchange = some_exchange(rng, rng.randint(2, 6))
            one = some_painting(rng, exchange.top, 6)
            other = one.after(exchange)
            self.assertEqual(other.amounts(), one.amounts())
            made = one.course_to(other).made()
            self.assertTrue(made.fair)
            self.assertEqual(one.after(made).stripes(), other.stripes())
            for value in some_tones(rng, exchange.top):
                self.assertEqual(one.after(made).colour(exchange(value)), one.colour(value))

    def test_a_turn(self):
        turn = Turn(ONE, FIFTH, FOURTH).on(TWO)
        one = Painting(TWO, [(FIFTH, "red"), (FOURTH, "blue")])
        made = one.course_to(one.after(turn)).made()
        self.assertEqual((turn.owed, made.owed), (1, 0))
        self.assertEqual(one.after(made), one.after(turn))

    def test_behind_two(self):
        rng = random.Random(7)
        for _ in range(15):
            e, f = some_pair(rng, rng.randint(2, 5))
            painting = some_painting(rng, e.top)
            self.assertEqual(painting.after(e).after(f), painting.after(e >> f))
            self.assertEqual(painting.after(still(e.top)), painting)
            self.assertEqual(tone(Fraction(1)), (1, 1))


if __name__ == "__main__":
    unittest.main()
