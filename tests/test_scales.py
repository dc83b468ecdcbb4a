"""Promises 62, 63 and 71: scales, what leads them to one another, and their modes as folds."""

import random
import unittest

from tests.samples import INTERVALS, ONE, TWO, any_values, shuffled, some_lengths
from turnsleft.errors import BadLength, BadNumber, OtherSteps
from turnsleft.folds import fold_for
from turnsleft.making import course_between
from turnsleft.moves import arranged, fold, still
from turnsleft.ratios import Ratio, in_order, is_length, multiplied
from turnsleft.relations import is_loose, root_of
from turnsleft.scales import Scale
from turnsleft.sorting import same_sort
from turnsleft.told import Told
from turnsleft.wedges import nothing, wedge_of

NINE = Ratio(9, 8)
TEN = Ratio(10, 9)
HALF = Ratio(16, 15)
MAJOR = [NINE, TEN, HALF, NINE, TEN, NINE, HALF]


def some_scales(rng, many, count=2):
    """Scales with the same steps in some orders."""
    steps = [rng.choice(INTERVALS[:6]) for _ in range(many)]
    return [Scale(*[steps[at] for at in shuffled(rng, many)]) for _ in range(count)]


def crossing_by_pairs(one, other, u, v):
    """The crossing of two steps, counted pair by pair."""
    many = []
    for steps in (one.steps(), other.steps()):
        pairs = [(i, j) for i in range(len(steps)) for j in range(i + 1, len(steps))]
        many.append(len([None for i, j in pairs if steps[i] == u and steps[j] == v]))
    return many[0] - many[1]


class ToldTest(unittest.TestCase):
    def test_major(self):
        scale = Scale(*MAJOR)
        self.assertEqual(scale.top, TWO)
        self.assertEqual(scale.steps(), MAJOR)
        starts = [ONE, NINE, Ratio(5, 4), Ratio(4, 3), Ratio(3, 2), Ratio(5, 3), Ratio(15, 8)]
        self.assertEqual(scale.beginnings(), starts)
        self.assertEqual((len(scale), repr(scale), bool(scale)), (7, "Scale(7 steps)", True))
        self.assertEqual(scale.mode(1).steps(), [TEN, HALF, NINE, TEN, NINE, HALF, NINE])
        self.assertEqual(scale.mode(k=0), scale)
        self.assertEqual(scale.mode(6).steps(), [HALF, *MAJOR[:-1]])

    def test_one_step(self):
        scale = Scale(TWO)
        self.assertEqual((scale.top, scale.steps(), scale.beginnings()), (TWO, [TWO], [ONE]))
        self.assertEqual((scale.mode(0), len(scale), repr(scale)), (scale, 1, "Scale(1 steps)"))
        self.assertEqual((scale.led_to(scale), scale.crossings(scale)), (still(TWO), []))

    def test_many_steps(self):
        steps = [HALF, NINE] * 12
        scale = Scale(*steps)
        self.assertEqual((len(scale), repr(scale), scale.steps()), (24, "Scale(24 steps)", steps))
        self.assertEqual(scale.mode(23).steps(), [NINE, *steps[:-1]])
        for value in (NINE, None, True):
            with self.assertRaises(BadLength) as caught:
                Scale(*steps, value)
            self.assertEqual(caught.exception.at, 24)
        with self.assertRaises(BadLength) as caught:
            Scale(*steps[:23], ONE, *steps)
        self.assertEqual(caught.exception.at, 23)

    def test_no_lengths(self):
        with self.assertRaises(BadLength) as caught:
            Scale()
        self.assertEqual(caught.exception.at, 0)
        for value in [*any_values(), ONE, Ratio(8, 9), [NINE, NINE]]:
            if is_length(value):
                continue
            for at in range(3):
                steps = [NINE] * at + [value] + [None]
                with self.assertRaises(BadLength) as caught:
                    Scale(*steps)
                self.assertEqual(caught.exception.at, at)

    def test_no_indexes(self):
        scale = Scale(*MAJOR)
        for value in [*any_values(), -1, 7, 8, 10**199]:
            if isinstance(value, int) and not isinstance(value, bool) and 0 <= value < 7:
                continue
            with self.assertRaises(BadNumber) as caught:
                scale.mode(value)
            self.assertIs(caught.exception.value, value)

    def test_equal(self):
        scale = Scale(*MAJOR)
        self.assertTrue(scale == Scale(*list(MAJOR)))
        self.assertFalse(scale == scale.mode(1))
        self.assertFalse(scale == Scale(*MAJOR, NINE))
        self.assertTrue(Scale(NINE, NINE) == Scale(NINE, NINE).mode(1))
        for value in any_values():
            self.assertFalse(scale == value)

    def test_new_lists(self):
        scale = Scale(*MAJOR)
        scale.steps().clear()
        scale.beginnings().clear()
        scale.crossings(scale.mode(1)).clear()
        self.assertEqual(scale.steps(), MAJOR)
        self.assertEqual(len(scale.beginnings()), 7)
        self.assertEqual(len(scale.crossings(scale.mode(1))), 2)

    def test_other_steps(self):
        scale = Scale(NINE, NINE, TEN)
        for other in (Scale(NINE, TEN), Scale(NINE, TEN, TEN), Scale(NINE, NINE, TEN, TEN), Scale(NINE * NINE, TEN)):
            self.assertRaises(OtherSteps, scale.led_to, other)
            self.assertRaises(OtherSteps, scale.crossings, other)
            self.assertRaises(OtherSteps, other.led_to, scale)


class LedTest(unittest.TestCase):
    def check(self, one, other):
        way = one.led_to(other)
        self.assertEqual(way.top, one.top)
        # equal steps stay in their order, each step comes where the other scale has it
        left = list(zip(one.steps(), one.beginnings()))
        for step, place in zip(other.steps(), other.beginnings()):
            at = [own for own, _ in left].index(step)
            _, start = left.pop(at)
            self.assertEqual(way.image(start, step), [(place, step)])
        crossings = one.crossings(other)
        total = nothing()
        pairs = []
        for u, v, crossing in crossings:
            self.assertTrue(u.below(v))
            self.assertNotEqual(crossing, 0)
            self.assertEqual(crossing, crossing_by_pairs(one, other, u, v))
            total = total + crossing * wedge_of(u, v)
            pairs.append((u, v))
        self.assertEqual(way.wedge, total)
        wanted = []
        steps = in_order(one.steps())
        for at, u in enumerate(steps):
            wanted.extend((u, v) for v in steps[at + 1:] if crossing_by_pairs(one, other, u, v) != 0)
        self.assertEqual(pairs, wanted)
        if is_loose(steps):
            self.assertIs(way.fair, not crossings)
        return way

    def test_ways(self):
        rng = random.Random(1)
        for many in (1, 2, 3, 5, 7, 12, 24):
            for _ in range(4):
                one, other, third = some_scales(rng, many, 3)
                way = self.check(one, other)
                behind = self.check(other, third)
                whole = self.check(one, third)
                self.assertEqual((way.wedge + behind.wedge).pairs(), whole.wedge.pairs())
                back = self.check(other, one)
                self.assertEqual(back.wedge.pairs(), (-way.wedge).pairs())
                self.assertEqual(one.led_to(one), still(one.top))
                self.assertEqual(one.crossings(one), [])
                self.assertEqual(one.led_to(other=other), way)

    def test_equal_steps(self):
        scale = Scale(*[NINE] * 24)
        self.assertEqual(scale.led_to(scale.mode(5)), still(scale.top))
        self.assertEqual(scale.crossings(scale), [])
        # the exchange of the equal steps would be fair, too, but they stay in their order
        one = Scale(NINE, TEN, NINE)
        self.assertEqual(one.led_to(Scale(NINE, NINE, TEN)), arranged([NINE, TEN, NINE], [0, 2, 1]))

    def test_loose_steps(self):
        rng = random.Random(2)
        steps = [TWO, Ratio(3, 2), Ratio(5, 4), Ratio(7, 4)]
        fair = 0
        for _ in range(60):
            one = [rng.choice(steps) for _ in range(6)]
            first, second = Scale(*one), Scale(*[one[at] for at in shuffled(rng, 6)])
            self.assertIs(first.led_to(second).fair, first.crossings(second) == [])
            fair += first.crossings(second) == []
        self.assertGreater(fair, 0)
        # fair, but not the exchange that stays
        one, other = Scale(TWO, NINE, NINE, TWO), Scale(NINE, TWO, TWO, NINE)
        self.assertEqual(one.crossings(other), [])
        self.assertTrue(one.led_to(other).fair)
        self.assertNotEqual(one.led_to(other), still(one.top))

    def test_bound_steps(self):
        # crossings, and yet fair: the steps are powers of one ratio
        one, other = Scale(TWO, Ratio(4)), Scale(Ratio(4), TWO)
        self.assertEqual(one.crossings(other), [(TWO, Ratio(4), 1)])
        self.assertTrue(one.led_to(other).fair)


class ModesTest(unittest.TestCase):
    def check(self, scale, k):
        top = scale.top
        ahead = multiplied(scale.steps()[:k])
        order = [*range(k, len(scale)), *range(k)]
        by_fold = fold(top, ONE // ahead)
        self.assertEqual(arranged(scale.steps(), order), by_fold)
        way = scale.led_to(scale.mode(k))
        self.assertEqual(way.wedge.pairs(), by_fold.wedge.pairs())
        self.assertTrue(same_sort(way, by_fold))
        self.assertEqual(way.wedge.pairs(), wedge_of(top, ONE // ahead).pairs())
        self.assertEqual(by_fold >> course_between(by_fold, way).made(), way)
        found = fold_for(way)
        self.assertTrue(same_sort(fold(top, found), way))
        self.assertTrue(found.below(root_of(top)[0]))
        self.assertEqual(fold_for(by_fold), found)
        if not root_of(top)[0].below(top):
            self.assertEqual(fold(top, found), by_fold)

    def test_modes(self):
        rng = random.Random(3)
        scales = [Scale(*MAJOR), Scale(*some_lengths(rng, 5)), Scale(NINE, NINE), Scale(TWO)]
        scales.append(Scale(*[NINE, HALF] * 12))
        for scale in scales:
            for k in {0, 1 % len(scale), len(scale) // 2, len(scale) - 1}:
                self.check(scale, k)

    def test_told_folds_by_steps(self):
        rng = random.Random(4)
        for steps in (MAJOR, some_lengths(rng, 4), [TWO, Ratio(3)]):
            scale = Scale(*steps)
            told = Told(*[fold(scale.top, step) for step in in_order(steps)])
            for k in range(len(scale)):
                way = scale.led_to(scale.mode(k))
                self.assertTrue(told.makes(way))
                counts, course = told.completed(way)
                self.assertEqual(told.done(counts) >> course.made(), way)


if __name__ == "__main__":
    unittest.main()
