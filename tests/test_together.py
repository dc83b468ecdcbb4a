"""Promises 90, 91, 92 and 97: one turn for two, powers of lengths, commutators told, and from papers to turns."""

import random
import unittest

from tests.samples import INTERVALS, ONE, TWO, shuffled, some_length, some_lengths, some_pair
from turnsleft.bench import Bench
from turnsleft.courses import Course
from turnsleft.errors import OffLine, Unmade
from turnsleft.judging import first_fault, look
from turnsleft.making import course_between
from turnsleft.moves import Swap, Turn, arranged, commutator, fold, still
from turnsleft.normal import anchor_of, divisors, normal_sum
from turnsleft.papers import BarredPaper, FairPaper, MadePaper, RootPaper, TurnsPaper, UnfairPaper
from turnsleft.placing import resolved
from turnsleft.ratios import Ratio, multiplied
from turnsleft.relations import is_base_part, is_loose
from turnsleft.roots import root, root_numbers
from turnsleft.sorting import same_sort, sorts
from turnsleft.told import Told
from turnsleft.wedges import Wedge, nothing, wedge_of

NINE = Ratio(9, 8)
FIFTH = Ratio(3, 2)
FOURTH = Ratio(4, 3)


class OneTurnForTwoTest(unittest.TestCase):
    def check(self, exchange, turns):
        self.assertEqual(exchange.owed, turns)
        course, told = resolved(exchange)
        self.assertEqual(len(told), turns)
        made = course.made()
        for turn in told:
            made = made >> turn.on(exchange.top)
        self.assertEqual(made, exchange)
        total = nothing()
        for number, u, v in normal_sum(exchange.wedge):
            total = total + number * wedge_of(u, v)
        self.assertEqual(total.pairs(), exchange.wedge.pairs())
        self.assertTrue(is_base_part([ratio for _, u, v in normal_sum(exchange.wedge) for ratio in (u, v)]))
        numbers = divisors(exchange.wedge)
        self.assertEqual([number for number, _, _ in normal_sum(exchange.wedge)], numbers)
        self.assertEqual(len(numbers), turns)
        self.assertEqual(numbers[:1], [exchange.wedge.content][:turns])
        paper = TurnsPaper(exchange, course, told, anchor_of(exchange.wedge))
        self.assertEqual((paper.fault(), paper.holds), (None, True))

    def test_two_turns(self):
        rng = random.Random(1)
        for _ in range(10):
            a, b, c = some_lengths(rng, 3)
            # turns of a and b, and of a and c: one turn of a and b * c
            both = Turn(ONE, a, b).on(a * b * c) >> Turn(b, a, c).on(a * b * c)
            self.assertEqual(both, Turn(ONE, a, b * c).on(a * b * c))
            apart = arranged([a, b, a, c], [1, 0, 3, 2])
            self.check(apart, wedge_of(a, b * c).rank // 2)
            self.check(both, wedge_of(a, b * c).rank // 2)

    def test_flat_sums(self):
        for a, b in [(NINE, FIFTH), (TWO, Ratio(3)), (Ratio(7, 5), Ratio(13, 11))]:
            self.check(arranged([a, b, b, a], [1, 0, 3, 2]), 0)
            self.check(arranged([a, b, a, b], [1, 0, 3, 2]), 1)
            self.check(arranged([a, b, b.power(2), a.power(3)], [1, 0, 3, 2]), 1)

    def test_two_turns_are_two(self):
        primes = [Ratio(prime) for prime in (2, 3, 5, 7)]
        self.check(arranged(primes, [1, 0, 3, 2]), 2)
        self.check(arranged(primes[:3] + primes[1:3], [1, 0, 2, 4, 3]), 1)


class PowersTest(unittest.TestCase):
    def test_powers_of_lengths(self):
        rng = random.Random(2)
        for k in (1, 2, 3, 5, 8, 12):
            a, b = rng.sample(INTERVALS, 2)
            top = a.power(k) * b.power(k) * NINE
            one = Turn(ONE, a.power(k), b).on(top)
            other = Turn(rng.choice([ONE, NINE]), a, b.power(k)).on(top)
            self.assertTrue(same_sort(one, other))
            self.assertEqual(sorts([one, still(top), other])[0], [0, 2] if not one.fair else [0, 1, 2])
            self.assertEqual(one >> course_between(one, other).made(), other)
            self.assertEqual(other >> course_between(other, one).made(), one)
            if one.fair:
                self.assertEqual(root_numbers(one), [])
                continue
            for exchange in (one, other):
                self.assertIn(k, root_numbers(exchange))
                found, course = root(exchange, k)
                paper = RootPaper(exchange, k, found, course)
                self.assertIsNone(paper.fault())
                self.assertTrue(same_sort(found, Turn(ONE, a, b).on(top)))
                self.assertEqual(RootPaper(exchange, k + 1, found, course).fault(), "made")

    def test_equal_lengths(self):
        one = Turn(ONE, NINE.power(4), NINE).on(TWO)
        other = Turn(ONE, NINE, NINE.power(4)).on(TWO)
        self.assertTrue(one.fair and same_sort(one, other))
        self.assertEqual(one >> course_between(one, other).made(), other)


class CommutatorsTest(unittest.TestCase):
    def test_told(self):
        rng = random.Random(3)
        for _ in range(8):
            e, f = some_pair(rng, rng.randint(2, 4))
            whole = commutator(e, f)
            self.assertEqual(whole.wedge, nothing())
            for told in (Told(e), Told(e, f), Told(f, still(e.top), commutators=True), Told(e, f, commutators=True)):
                self.assertTrue(told.makes(whole))
                self.assertIsNone(told.bar(whole))
                counts, course = told.completed(whole)
                self.assertEqual(told.done(counts) >> course.made(), whole)
                if told.commutators:
                    lengths = [swap.length.as_tone() for swap in course.swaps()]
                    self.assertTrue(all(lengths.count(length) % 2 == 0 for length in lengths))
                self.assertIsNone(MadePaper(told, whole, counts).fault())
                self.assertIsNone(MadePaper(told, whole, [0] * len(told)).fault())
                self.assertEqual(MadePaper(told, whole, [0] * (len(told) + 1)).fault(), "count")
                self.assertEqual(MadePaper(told, still(e.top * TWO), counts).fault(), "line")
                counts = [1] + [0] * (len(told) - 1)
                first = told.exchanges()[0]
                wished = None if first.fair and (not told.commutators or not first.wedge) else "sum"
                self.assertEqual(MadePaper(told, whole, counts).fault(), wished)

    def test_bits(self):
        swap = Swap(ONE, FIFTH, FOURTH).on(TWO)
        whole = commutator(fold(TWO, FIFTH), swap)
        behind = whole >> swap
        told = Told(whole, commutators=True)
        self.assertTrue(Told(whole).makes(behind))
        self.assertFalse(told.makes(behind))
        with self.assertRaises(Unmade) as caught:
            told.completed(behind)
        self.assertIsNone(BarredPaper(told, behind, caught.exception.reading).fault())
        self.assertEqual(MadePaper(told, behind, [4]).fault(), "sum")
        self.assertIsNone(MadePaper(Told(whole), behind, [4]).fault())


class FromPapersToTurnsTest(unittest.TestCase):
    def some_bench(self, rng):
        """A bench with a line that owes something."""
        lengths = some_lengths(rng, 3)
        top = multiplied(lengths) * TWO
        bench = Bench()
        bench.do(("line", "a", top), ("turn", "a", ONE, lengths[0], lengths[1]), ("swap", "a", ONE, lengths[0], lengths[0]))
        bench.do(("fold", "a", lengths[2]), ("turn", "a", lengths[0], lengths[1], lengths[2]))
        return bench

    def test_second_line(self):
        rng = random.Random(4)
        for _ in range(8):
            bench = self.some_bench(rng)
            exchange = bench.exchange_of("a")
            course, turns = resolved(exchange)
            self.assertEqual(len(turns), bench.owed_by("a"))
            deeds = [("turn", "b", turn.start, turn.first, turn.second) for turn in turns]
            bench.do(("line", "b", exchange.top), ("do", "b", course.made()), *deeds)
            self.assertEqual(bench.exchange_of("b"), exchange)
            self.assertTrue(bench.same("a", "b"))
            self.assertEqual(bench("text b"), bench("text a"))
            # the swaps themselves, on a line with the room
            wide = Bench()
            wide.do(("line", "w", course.room), *[("swap", "w", swap.first, swap.second, swap.length) for swap in course.swaps()])
            self.assertEqual(wide.exchange_of("w"), course.wide())
            if course.room != exchange.top and any(exchange.top.below(swap.end) for swap in course.swaps()):
                own = [("swap", "b", swap.first, swap.second, swap.length) for swap in course.swaps()]
                self.assertRaises(OffLine, bench.do, *own)

    def test_papers(self):
        rng = random.Random(5)
        for _ in range(6):
            bench = self.some_bench(rng)
            exchange = bench.exchange_of("a")
            if exchange.fair:
                continue
            course, turns = resolved(exchange)
            anchor = anchor_of(exchange.wedge)
            made = course.made()
            told = Told(exchange, made)
            barred = Told(exchange.times(2))
            reading = barred.bar(exchange)
            turned = TurnsPaper(exchange, course, turns, anchor)
            first, second = [pair for pair in [(2, 3), (2, 5), (3, 5), (2, 7), (3, 7), (5, 7), (2, 11), (3, 11), (5, 11), (7, 11),
                (2, 13), (3, 13), (5, 13), (7, 13), (11, 13)] if exchange.wedge.at(*pair) != 0][0]
            good = [
                turned, FairPaper(made, course), UnfairPaper(exchange, made, first, second),
                MadePaper(told, exchange.times(2), told.counts_for(exchange.times(2))), BarredPaper(barred, exchange, reading),
            ]
            self.assertEqual([fault for _, fault in look(*good)], [None] * 5)
            self.assertIsNone(first_fault(*good))
            bent = [
                (TurnsPaper(exchange, course, turns[:-1], anchor), "made"), (TurnsPaper(exchange, course, turns, anchor[:-1]), "count"),
                (TurnsPaper(exchange, course, turns, anchor[::-1]), "primes"), (TurnsPaper(made, course, turns, anchor), "made"),
                (TurnsPaper(exchange, Course(TWO.power(9), []), turns, anchor), "line"), (FairPaper(exchange, course), "made"),
                (UnfairPaper(exchange, exchange, first, second), "table"), (UnfairPaper(exchange, made, second, first), "primes"),
                (MadePaper(told, exchange, [2, 0]), "sum"), (MadePaper(told, exchange, [1]), "count"),
                (BarredPaper(Told(exchange), exchange, reading), "told"), (BarredPaper(barred, made, reading), "value"),
            ]
            for at, (paper, fault) in enumerate(bent):
                self.assertEqual(paper.fault(), fault, at)
                self.assertEqual(first_fault(*good[:2], paper, *good[2:]), (2, fault))
                self.assertEqual(list(look(*good, paper))[-1], (paper.name, fault))

    def test_loose_ones(self):
        rng = random.Random(6)
        lengths = [some_length(rng, 2) for _ in range(4)]
        while not is_loose(lengths):
            lengths = [some_length(rng, 2) for _ in range(4)]
        exchange = arranged(lengths, [3, 2, 1, 0])
        course, turns = resolved(exchange, low=NINE, high=NINE * NINE) if NINE.power(2).below(exchange.top) else resolved(exchange)
        self.assertEqual(len(turns), 2)
        self.assertIsNone(TurnsPaper(exchange, course, turns, anchor_of(exchange.wedge)).fault())
        self.assertEqual(Wedge(exchange.wedge.pairs()).owed, 2)
        self.assertEqual(arranged(lengths, shuffled(rng, 4)).top, exchange.top)


if __name__ == "__main__":
    unittest.main()
