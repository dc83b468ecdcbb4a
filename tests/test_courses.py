"""Promises 21 to 25: courses told, refused, added, turned back, carried and cancelled."""

import random
import unittest

from tests.samples import (
    INTERVALS, ONE, TWO, any_values, edge_tones, fraction, is_exchange_of, shuffled, some_swap, some_tones, tone,
)
from turnsleft.courses import Course
from turnsleft.errors import BadRoom, BadSwap, BadTop, NotKept, NotOnLine, OtherLine
from turnsleft.exchanges import Exchange
from turnsleft.moves import Swap, Turn, arranged, fold, still
from turnsleft.ratios import Ratio, multiplied

FOUR = Ratio(4)
EIGHT = Ratio(8)
SWAP = Swap(ONE, Ratio(3, 2), Ratio(9, 8))
BEHIND = Swap(ONE, TWO, Ratio(3, 2))


def some_course(rng, many, top=FOUR, room=FOUR):
    """A course of a line with a room."""
    return Course(top, [some_swap(rng, room) for _ in range(many)], room=room)


def some_keeping_course(rng, many):
    """A course that uses the room and puts it in order again."""
    out = Swap(ONE, FOUR, TWO)
    inner = [some_swap(rng, TWO) for _ in range(many)]
    behind = [Swap(swap.first * FOUR, swap.second * FOUR, swap.length) for swap in inner]
    swaps = [some_swap(rng, FOUR), out, *behind, out, some_swap(rng, FOUR)]
    return Course(FOUR, swaps, room=EIGHT)


def done_by_swaps(course):
    """The exchange of the wide line, one swap behind another."""
    exchange = still(course.room)
    for swap in course.swaps():
        exchange = exchange >> swap.on(course.room)
    return exchange


def raised(kind, function):
    """The error of a kind that a function raises, None if it raises none."""
    try:
        function()
    except kind as error:
        return error
    return None


class ToldTest(unittest.TestCase):
    def test_small(self):
        course = Course(TWO, [SWAP])
        self.assertEqual((course.top, course.room), (TWO, TWO))
        self.assertEqual(course.swaps(), [SWAP])
        self.assertEqual(course.product, Ratio(9, 8))
        self.assertIs(course.keeps, True)
        self.assertEqual(course.made(), SWAP.on(TWO))
        self.assertEqual(course.wide(), SWAP.on(TWO))
        self.assertEqual(len(course), 1)
        self.assertEqual(repr(course), "Course(1 swaps)")

    def test_without_swaps(self):
        for course in (Course(TWO, []), Course(TWO, ()), Course(top=TWO, swaps=[], room=FOUR)):
            self.assertEqual((len(course), course.product, course.swaps()), (0, ONE, []))
            self.assertTrue(course)
            self.assertIs(course.keeps, True)
            self.assertEqual(course.made(), still(TWO))
            self.assertEqual(course.wide(), still(course.room))
            self.assertEqual(repr(course), "Course(0 swaps)")
            self.assertEqual(list(course.walk((3, 2))), [])

    def test_rooms(self):
        self.assertEqual(Course(TWO, [SWAP]), Course(TWO, [SWAP], room=None))
        self.assertEqual(Course(TWO, [SWAP]), Course(TWO, [SWAP], room=TWO))
        self.assertNotEqual(Course(TWO, [SWAP]), Course(TWO, [SWAP], room=FOUR))
        self.assertNotEqual(Course(TWO, [SWAP]), Course(FOUR, [SWAP]))
        self.assertNotEqual(Course(TWO, [SWAP], room=FOUR), Course(FOUR, [SWAP], room=FOUR))
        self.assertNotEqual(Course(TWO, [SWAP]), Course(TWO, [SWAP, SWAP]))
        for value in any_values() + [[SWAP], SWAP]:
            self.assertIs(Course(FOUR, [SWAP]) == value, False)

    def test_keeps(self):
        once = Course(TWO, [BEHIND], room=Ratio(3))
        self.assertIs(once.keeps, False)
        self.assertRaises(NotKept, once.made)
        self.assertEqual(once.wide(), BEHIND.on(Ratio(3)))
        twice = Course(TWO, [BEHIND, BEHIND], room=Ratio(3))
        self.assertIs(twice.keeps, True)
        self.assertEqual(twice.made(), still(TWO))
        # the wide line is in order again, and the line is not
        there = Course(TWO, [BEHIND, Swap(TWO, Ratio(8, 3), Ratio(9, 8)), BEHIND], room=Ratio(3))
        self.assertIs(there.keeps, True)
        self.assertEqual(there.made(), Swap(ONE, Ratio(4, 3), Ratio(9, 8)).on(TWO))
        # tones from the top on are exchanged among themselves
        self.assertIs(Course(TWO, [Swap(TWO, Ratio(3), Ratio(9, 8))], room=FOUR).keeps, False)

    def test_by_single_swaps(self):
        rng = random.Random(1)
        for _ in range(40):
            course = rng.choice([some_course, some_keeping_course])(rng, rng.randint(0, 8))
            wide = done_by_swaps(course)
            self.assertEqual(course.wide(), wide)
            self.assertTrue(is_exchange_of(course.wide(), course.room))
            self.assertEqual(course.product, multiplied([swap.length for swap in course.swaps()]))
            self.assertEqual(wide.wedge.bits(), course.product.bits())
            self.assertTrue(wide.fair)
            self.assertTrue(course.keeps)
            for value in some_tones(rng, course.top) + edge_tones(course.made()):
                self.assertEqual(course.made()(value), wide(value))

    def test_keeps_by_tones(self):
        rng = random.Random(2)
        seen = set()
        for _ in range(60):
            course = some_course(rng, rng.randint(1, 3), FOUR, EIGHT)
            wide = done_by_swaps(course)
            edges = [start for start, _, _ in wide.rows()] + [FOUR]
            keeps = all(wide(start.as_tone()) == start.as_tone() for start in edges if not start.below(FOUR))
            self.assertIs(course.keeps, keeps)
            self.assertEqual(raised(NotKept, course.made) is None, keeps)
            seen.add(keeps)
        self.assertEqual(seen, {True, False})

    def test_walk(self):
        rng = random.Random(3)
        for _ in range(20):
            course = some_course(rng, 6, FOUR, EIGHT)
            for value in some_tones(rng, EIGHT) + edge_tones(course.wide()):
                place = value
                steps = list(course.walk(value))
                self.assertEqual(len(steps), 6)
                for swap, found in zip(course.swaps(), steps):
                    place = swap.on(EIGHT)(place)
                    self.assertEqual(found, place)
                self.assertEqual(place, course.wide()(value))

    def test_walk_refused(self):
        for course in (Course(TWO, [SWAP]), Course(TWO, [], room=TWO)):
            for value in any_values() + [(2, 1), (1, 2), [3, 2], (3, 2, 1)]:
                walk = course.walk(value)
                error = raised(NotOnLine, lambda: next(walk))
                self.assertIsNotNone(error)
                self.assertIs(error.tone, value)
        self.assertEqual(list(Course(TWO, [], room=FOUR).walk(tone=(3, 1))), [])
        self.assertEqual(list(Course(TWO, [SWAP]).walk((1, 1))), [(3, 2)])

    def test_nothing_changes(self):
        swaps = [SWAP]
        course = Course(TWO, swaps)
        swaps.append(SWAP)
        course.swaps().append(SWAP)
        results = [course + course, ~course, course.cancelled(), course.carried(fold(TWO, Ratio(3, 2)))]
        self.assertEqual(len(results), 4)
        self.assertEqual(course.swaps(), [SWAP])

    def test_long_lists(self):
        rng = random.Random(4)
        course = some_course(rng, 400)
        self.assertEqual(len(course), 400)
        self.assertEqual((course + ~course).made(), still(FOUR))
        place = (3, 2)
        for place in course.walk((3, 2)):
            pass
        self.assertEqual(course.made()((3, 2)), place)


class RefusedTest(unittest.TestCase):
    def test_bad_top(self):
        for value in any_values() + [ONE, Ratio(1, 2)]:
            if not isinstance(value, Ratio) or not ONE.below(value):
                self.assertIsNotNone(raised(BadTop, lambda: Course(value, None, room=0)))

    def test_bad_room(self):
        for value in any_values() + [Ratio(3, 2), ONE, Ratio(1, 2)]:
            if value is not None:
                self.assertIsNotNone(raised(BadRoom, lambda: Course(TWO, None, room=value)), value)

    def test_bad_swap(self):
        for value in any_values():
            if not isinstance(value, (list, tuple)):
                self.assertEqual(raised(BadSwap, lambda: Course(TWO, value)).at, -1)
            if not isinstance(value, Swap):
                self.assertEqual(raised(BadSwap, lambda: Course(TWO, [SWAP, value, BEHIND])).at, 1)
                self.assertEqual(raised(BadSwap, lambda: Course(TWO, (value,))).at, 0)
        self.assertEqual(raised(BadSwap, lambda: Course(TWO, [SWAP, BEHIND, None])).at, 1)
        self.assertEqual(raised(BadSwap, lambda: Course(TWO, [SWAP, SWAP, BEHIND], room=Ratio(8, 3))).at, 2)
        self.assertEqual(raised(BadSwap, lambda: Course(TWO, [Turn(ONE, Ratio(9, 8), Ratio(10, 9))])).at, 0)
        self.assertIsNone(raised(BadSwap, lambda: Course(TWO, [SWAP, BEHIND], room=Ratio(3))))

    def test_end_at_the_room(self):
        self.assertEqual(len(Course(Ratio(27, 16), [SWAP])), 1)
        self.assertEqual(raised(BadSwap, lambda: Course(Ratio(5, 3), [SWAP])).at, 0)
        self.assertEqual(len(Course(Ratio(5, 3), [SWAP], room=Ratio(27, 16))), 1)


class AddedTest(unittest.TestCase):
    def test_added(self):
        rng = random.Random(5)
        for _ in range(15):
            one = some_course(rng, 3, FOUR, EIGHT)
            two = some_course(rng, 2, FOUR, FOUR)
            for a, b in ((one, two), (two, one), (one, one)):
                both = a + b
                self.assertEqual(both.swaps(), a.swaps() + b.swaps())
                self.assertEqual((both.top, both.room), (FOUR, EIGHT))
            self.assertEqual((two + two).room, FOUR)
            self.assertEqual((one + two).product, one.product * two.product)
            self.assertEqual((two + two).made(), two.made() >> two.made())
        self.assertIsNotNone(raised(OtherLine, lambda: Course(TWO, [], room=FOUR) + Course(FOUR, [])))

    def test_turned_back(self):
        rng = random.Random(6)
        for _ in range(15):
            course = some_course(rng, 5, FOUR, EIGHT)
            back = ~course
            self.assertEqual(back.swaps(), course.swaps()[::-1])
            self.assertEqual((back.top, back.room), (FOUR, EIGHT))
            self.assertEqual(back.wide(), ~course.wide())
            self.assertEqual(~back, course)
            self.assertEqual((course + back).cancelled(), Course(FOUR, [], room=EIGHT))


class CarriedTest(unittest.TestCase):
    def check(self, course, exchange):
        carried = course.carried(exchange)
        self.assertEqual((carried.top, carried.room), (course.top, course.room))
        wide = exchange
        if course.room != course.top:
            wide = Exchange(course.room, exchange.rows() + [(course.top, course.room // course.top, ONE)])
        self.assertEqual(carried.wide(), wide >> course.wide() >> ~wide)
        self.assertEqual(carried.swaps(), carried_by_tones(course, wide))
        if course.keeps:
            self.assertEqual(carried.made(), exchange >> course.made() >> ~exchange)
        self.assertEqual(carried.product, course.product)

    def test_carried(self):
        rng = random.Random(7)
        lengths = [Ratio(9, 8), Ratio(4, 3), Ratio(10, 9), Ratio(6, 5), TWO]
        self.assertEqual(multiplied(lengths), FOUR)
        for _ in range(25):
            exchange = arranged(lengths, shuffled(rng, 5))
            self.check(some_course(rng, 3), exchange)
            self.check(some_course(rng, 3, FOUR, EIGHT), exchange)
            self.check(some_keeping_course(rng, 2), exchange)

    def test_by_the_one_that_stays(self):
        rng = random.Random(8)
        for room in (FOUR, EIGHT):
            course = some_course(rng, 5, FOUR, room)
            self.assertEqual(course.carried(exchange=still(FOUR)), course)

    def test_pieces_across_the_top(self):
        # the last row stays, so it goes on behind the top, and a swap across the top is not cut there
        exchange = Turn(ONE, Ratio(9, 8), Ratio(10, 9)).on(TWO)
        course = Course(TWO, [Swap(Ratio(5, 4), Ratio(5, 2), TWO)], room=Ratio(5))
        self.assertEqual(course.carried(exchange), course)
        # here it does not stay, and the swap is cut
        exchange = fold(TWO, Ratio(3, 2))
        found = Course(TWO, [Swap(Ratio(3, 2), Ratio(9, 4), Ratio(3, 2))], room=FOUR).carried(exchange)
        first = Swap(ONE, Ratio(9, 4), Ratio(4, 3))
        self.assertEqual(found.swaps(), [first, Swap(TWO, Ratio(3), Ratio(9, 8))])

    def test_lower_image_first(self):
        found = Course(TWO, [Swap(ONE, Ratio(4, 3), Ratio(4, 3))]).carried(fold(TWO, Ratio(3, 2)))
        self.assertEqual(found.swaps()[0].first.below(found.swaps()[0].second), True)
        self.assertEqual(found.made(), fold(TWO, Ratio(3, 2)) >> Swap(ONE, Ratio(4, 3), Ratio(4, 3)).on(TWO) >> fold(TWO, Ratio(2, 3)))

    def test_other_line(self):
        self.assertIsNotNone(raised(OtherLine, lambda: Course(TWO, [], room=FOUR).carried(still(FOUR))))

    def test_without_swaps(self):
        self.assertEqual(Course(TWO, [], room=FOUR).carried(fold(TWO, Ratio(3, 2))), Course(TWO, [], room=FOUR))


def carried_by_tones(course, wide):
    """The swaps of a carried course, by cutting both pieces of each swap wherever the exchange back is cut."""
    rows = (~wide).rows()
    cuts = [fraction(start) for start, _, _ in rows]
    swaps = []
    for swap in course.swaps():
        end = fraction(swap.length)
        inside = {fraction(ONE)}
        for cut in cuts:
            for start in (fraction(swap.first), fraction(swap.second)):
                if 1 < cut / start < end:
                    inside.add(cut / start)
        inside = sorted(inside) + [end]
        for low, high in zip(inside, inside[1:]):
            images = []
            for start in (swap.first, swap.second):
                over, under = (~wide)(tone(fraction(start) * low))
                images.append(Ratio(over, under))
            images = sorted(images, key=fraction)
            length = high / low
            swaps.append(Swap(images[0], images[1], Ratio(length.numerator, length.denominator)))
    return swaps


class CancelledTest(unittest.TestCase):
    def test_named_cases(self):
        other = Swap(ONE, Ratio(4, 3), Ratio(9, 8))
        cases = [
            ([], []), ([SWAP], [SWAP]), ([SWAP, SWAP], []), ([SWAP] * 3, [SWAP]), ([SWAP, other], [SWAP, other]),
            ([SWAP, other, other, SWAP], []), ([SWAP, other, SWAP, other], [SWAP, other, SWAP, other]),
            ([other, SWAP, SWAP, other, SWAP], [SWAP]), ([SWAP] * 400, []),
        ]
        for swaps, left in cases:
            for room in (TWO, FOUR):
                self.assertEqual(Course(TWO, swaps, room=room).cancelled(), Course(TWO, left, room=room))

    def test_same_exchange(self):
        rng = random.Random(9)
        for _ in range(20):
            pool = [some_swap(rng, FOUR) for _ in range(2)]
            course = Course(FOUR, [rng.choice(pool) for _ in range(10)])
            short = course.cancelled()
            self.assertEqual(short.made(), course.made())
            self.assertFalse(any(one == two for one, two in zip(short.swaps(), short.swaps()[1:])))


class LongestPiecesTest(unittest.TestCase):
    def test_many_swaps(self):
        rng = random.Random(10)
        top = multiplied(INTERVALS[:6])
        exchange = arranged(INTERVALS[:6], shuffled(rng, 6))
        course = Course(top, [some_swap(rng, top) for _ in range(20)])
        carried = course.carried(exchange)
        self.assertEqual(carried.swaps(), carried_by_tones(course, exchange))
        self.assertEqual(carried.made(), exchange >> course.made() >> ~exchange)


if __name__ == "__main__":
    unittest.main()
