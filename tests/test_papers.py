"""Promises 80, 81 and 82: papers that hold, papers that are bent, and papers in a row."""

import random
import unittest

from tests.samples import ONE, TWO, some_exchange, some_pair
from turnsleft.courses import Course
from turnsleft.judging import first_fault, look
from turnsleft.making import course_for
from turnsleft.moves import Swap, Turn, commutator, fold, still
from turnsleft.normal import anchor_of
from turnsleft.papers import BarredPaper, FairPaper, MadePaper, Paper, RootPaper, TurnsPaper, UnfairPaper
from turnsleft.placing import resolved
from turnsleft.ratios import PRIMES, Ratio
from turnsleft.readings import Reading
from turnsleft.roots import root
from turnsleft.told import Told

NINE = Ratio(9, 8)
FIFTH = fold(TWO, Ratio(3, 2))
THIRD = fold(TWO, Ratio(5, 4))
SWAP = Swap(ONE, Ratio(3, 2), NINE)
# it exchanges a stretch of the line with one behind it
LOST = Course(TWO, [Swap(ONE, TWO, NINE)], room=Ratio(4))
# it makes another exchange than any that is asked for
OTHER = Course(TWO, [Swap(NINE, Ratio(15, 8), Ratio(81, 80))])
AWAY = Course(Ratio(3), [])
# 1 for the pair 2, 3
WEIGHTS = [1] + [0] * 14


def fair_paper(exchange=SWAP.on(TWO), course=Course(TWO, [SWAP])):
    return FairPaper(exchange, course)


def unfair_paper(exchange=FIFTH, other=still(TWO), first=2, second=3):
    return UnfairPaper(exchange, other, first, second)


def turns_paper(exchange=FIFTH, course=Course(TWO, []), turns=(Turn(ONE, Ratio(4, 3), Ratio(3, 2)),), primes=(2, 3)):
    return TurnsPaper(exchange, course, turns, primes)


def made_paper(told=Told(FIFTH), exchange=FIFTH.times(3), counts=(3,)):
    return MadePaper(told, exchange, counts)


def barred_paper(told=Told(FIFTH.times(2)), exchange=FIFTH, reading=Reading(WEIGHTS, modulus=2)):
    return BarredPaper(told, exchange, reading)


def root_paper(exchange=FIFTH.times(3), many=3, found=FIFTH, course=Course(TWO, [])):
    return RootPaper(exchange, many, found, course)


MAKERS = {
    "fair": fair_paper, "unfair": unfair_paper, "turns": turns_paper, "made": made_paper, "barred": barred_paper,
    "root": root_paper,
}


class HoldingTest(unittest.TestCase):
    def check(self, name, paper, fault=None):
        self.assertEqual((paper.name, paper.fault()), (name, fault))
        self.assertIs(paper.holds, fault is None)
        self.assertIsInstance(paper, Paper)

    def test_sorts(self):
        for name, make in MAKERS.items():
            self.check(name, make())

    def test_attributes(self):
        wished = {
            "fair": "exchange course", "unfair": "exchange other first second", "turns": "exchange course turns primes",
            "made": "told exchange counts", "barred": "told exchange reading", "root": "exchange many root course",
        }
        for name, make in MAKERS.items():
            own = vars(make())
            for word in wished[name].split():
                self.assertIn(word, own)
            self.assertEqual(own["name"], name)
        paper = FairPaper(course=AWAY, exchange=FIFTH)
        self.assertEqual((paper.exchange, paper.course), (FIFTH, AWAY))
        self.assertEqual(UnfairPaper(second=3, first=2, other=THIRD, exchange=FIFTH).other, THIRD)
        self.assertEqual(RootPaper(FIFTH, 1, THIRD, AWAY).root, THIRD)

    def test_lists_copied(self):
        turns, primes, counts = [Turn(ONE, Ratio(4, 3), Ratio(3, 2))], [2, 3], [3]
        one = turns_paper(turns=turns, primes=primes)
        other = made_paper(counts=counts)
        turns.clear()
        primes.append(5)
        counts[0] = 4
        self.assertEqual((one.turns, one.primes), ((Turn(ONE, Ratio(4, 3), Ratio(3, 2)),), (2, 3)))
        self.assertEqual(other.counts, (3,))
        self.check("turns", one)
        self.check("made", other)

    def test_found_ones(self):
        rng = random.Random(1)
        for _ in range(8):
            exchange = some_exchange(rng, 4)
            course, turns = resolved(exchange)
            self.check("turns", TurnsPaper(exchange, course, turns, list(anchor_of(exchange.wedge))))
            behind = exchange.times(2)
            found, course = root(behind, 2)
            self.check("root", RootPaper(behind, 2, found, course))
            e, f = some_pair(rng, 3)
            whole = commutator(e, f)
            self.check("fair", FairPaper(whole, course_for(whole)))
            told = Told(e, f)
            self.check("made", MadePaper(told, e >> f, told.counts_for(e >> f)))
            self.check("made", MadePaper(Told(e, commutators=True), whole, [0]))

    def test_flat_ones(self):
        self.check("turns", turns_paper(SWAP.on(TWO), Course(TWO, [SWAP]), [], []))
        self.check("turns", turns_paper(still(TWO), Course(TWO, []), (), ()))
        self.check("root", RootPaper(still(TWO), 60, still(TWO), Course(TWO, [])))


class BentTest(unittest.TestCase):
    def check(self, name, fault, **changes):
        if fault is not None:
            self.assertIsInstance(fault, str)
        paper = MAKERS[name](**changes)
        self.assertEqual(paper.fault(), fault, changes)
        self.assertIs(paper.holds, fault is None)

    def test_fair(self):
        self.check("fair", "line", course=AWAY)
        self.check("fair", "line", exchange=still(Ratio(3)))
        self.check("fair", "line", exchange=FIFTH, course=Course(Ratio(3), [Swap(ONE, Ratio(3), NINE)], room=Ratio(9)))
        self.check("fair", "keeps", course=LOST)
        self.check("fair", "keeps", exchange=FIFTH, course=LOST)
        self.check("fair", "made", course=OTHER)
        self.check("fair", "made", exchange=FIFTH)
        self.check("fair", None, course=Course(TWO, [SWAP, SWAP, SWAP], room=Ratio(7)))

    def test_unfair(self):
        self.check("unfair", "line", exchange=still(Ratio(3)), first=3, second=2)
        for first, second in [(3, 2), (2, 2), (1, 3), (2, 4), (2, 17), (-2, 3), (0, 0), (9, 3), (13, 11)]:
            self.check("unfair", "primes", first=first, second=second)
            self.check("unfair", "primes", other=FIFTH, first=first, second=second)
        self.check("unfair", "table", second=5)
        self.check("unfair", "table", first=11, second=13)
        self.check("unfair", "table", other=FIFTH)
        # other bits alone
        self.check("unfair", "table", exchange=SWAP.on(TWO))
        self.check("unfair", None, exchange=still(TWO), other=FIFTH)

    def test_turns(self):
        turn = Turn(ONE, Ratio(4, 3), Ratio(3, 2))
        off = Turn(NINE, Ratio(4, 3), Ratio(3, 2))
        self.check("turns", "line", course=AWAY, turns=[off], primes=[])
        self.check("turns", "keeps", course=LOST, turns=[off], primes=[])
        self.check("turns", "turns", turns=[off], primes=[])
        self.check("turns", "turns", turns=[turn, off])
        self.check("turns", "made", turns=[], primes=[])
        self.check("turns", "made", turns=[turn, turn], primes=[3, 2])
        self.check("turns", "made", course=OTHER, primes=[2])
        self.check("turns", "made", exchange=THIRD)
        for primes in ([], [2], [2, 3, 5], [2, 3, 5, 7], [4]):
            self.check("turns", "count", primes=primes)
        for primes in ([3, 2], [2, 2], [1, 2], [2, 4], [2, 15], [0, 0], [-3, -2]):
            self.check("turns", "primes", primes=primes)
        self.check("turns", "anchor", primes=[2, 5])
        self.check("turns", "anchor", primes=[11, 13])
        # too many turns: there is no anchor for them
        again = [turn, turn, turn]
        self.check("turns", "anchor", exchange=FIFTH.times(3), turns=again, primes=PRIMES)
        self.check("turns", "anchor", exchange=FIFTH.times(2), turns=[turn, turn], primes=[2, 3, 5, 7])
        self.check("turns", None, turns=[turn], primes=[2, 3])

    def test_order_of_turns(self):
        # one turn inside of another one: the first one comes first
        one, other = Turn(ONE, Ratio(4, 3), Ratio(3, 2)), Turn(ONE, NINE, Ratio(10, 9))
        exchange = one.on(TWO) >> other.on(TWO)
        self.check("turns", "made", exchange=exchange, turns=[other, one], primes=[2, 3, 5, 7])
        self.check("turns", "anchor", exchange=exchange, turns=[one, other], primes=[2, 3, 5, 7])

    def test_made(self):
        self.check("made", "line", exchange=still(Ratio(3)), counts=[])
        for counts in ([], [3, 0], [1, 1, 1]):
            self.check("made", "count", counts=counts)
            self.check("made", "count", exchange=THIRD, counts=counts)
        self.check("made", "sum", counts=[2])
        self.check("made", "sum", counts=[-3])
        self.check("made", "sum", exchange=THIRD)
        # another bit counts only where commutators are used
        swapped = FIFTH.times(3) >> SWAP.on(TWO)
        self.check("made", None, exchange=swapped)
        self.check("made", "sum", told=Told(FIFTH, commutators=True), exchange=swapped)
        self.check("made", None, told=Told(FIFTH, commutators=True))
        self.check("made", None, told=Told(FIFTH, THIRD), exchange=FIFTH >> ~THIRD, counts=[1, -1])
        self.check("made", "sum", told=Told(FIFTH, THIRD), exchange=FIFTH >> ~THIRD, counts=[-1, 1])

    def test_barred(self):
        bit = Reading([0] * 15, bits=[1, 0, 0, 0, 0, 0], modulus=2)
        self.check("barred", "line", exchange=still(Ratio(3)), reading=Reading(WEIGHTS))
        self.check("barred", "bits", reading=Reading(WEIGHTS))
        self.check("barred", "bits", reading=Reading([0] * 15))
        self.check("barred", "bits", reading=bit)
        self.check("barred", "bits", told=Told(FIFTH), reading=bit)
        self.check("barred", "told", told=Told(FIFTH))
        self.check("barred", "told", told=Told(THIRD, FIFTH), exchange=still(TWO))
        self.check("barred", "told", told=Told(still(TWO), FIFTH.times(2), THIRD >> FIFTH))
        self.check("barred", "value", exchange=still(TWO))
        self.check("barred", "value", exchange=FIFTH.times(4))
        swap = SWAP.on(TWO)
        other = Swap(ONE, Ratio(3, 2), Ratio(4, 3)).on(TWO)
        both = Told(other >> other, commutators=True)
        bits = Reading([0] * 15, bits=[0, 0, 1, 0, 0, 0], modulus=2)
        fifths = Swap(ONE, Ratio(3, 2), Ratio(5, 4)).on(TWO)
        self.check("barred", None, told=both, exchange=fifths, reading=bits)
        self.check("barred", "value", told=both, exchange=swap, reading=bits)
        self.check("barred", "told", told=Told(fifths, commutators=True), exchange=fifths, reading=bits)
        self.check("barred", "bits", told=Told(other), exchange=fifths, reading=bits)

    def test_root(self):
        self.check("root", "line", found=still(Ratio(3)), course=LOST)
        self.check("root", "line", course=AWAY)
        self.check("root", "line", exchange=still(Ratio(3)))
        self.check("root", "keeps", course=LOST, many=2)
        self.check("root", "made", many=2)
        self.check("root", "made", found=~FIFTH)
        self.check("root", "made", course=OTHER)
        self.check("root", None, course=Course(TWO, [SWAP, SWAP]))
        # f first, and the course behind it
        around = FIFTH.times(3) >> SWAP.on(TWO)
        self.check("root", None, exchange=around, course=Course(TWO, [SWAP]))
        self.check("root", "made", exchange=SWAP.on(TWO) >> FIFTH.times(3), course=Course(TWO, [SWAP]))

    def test_two_things_bent(self):
        rng = random.Random(2)
        orders = {
            "fair": ["line", "keeps", "made"],
            "turns": ["line", "keeps", "turns", "made", "count", "primes", "anchor"],
        }
        bent = {
            "fair": {"line": {"course": AWAY}, "keeps": {"course": LOST}, "made": {"exchange": FIFTH}},
            "turns": {
                "line": {"course": AWAY}, "keeps": {"course": LOST}, "turns": {"turns": [Turn(TWO, NINE, NINE)]},
                "made": {"exchange": THIRD}, "count": {"primes": [2]}, "primes": {"primes": [3, 2]},
                "anchor": {"primes": [7, 11]},
            },
        }
        for _ in range(40):
            name = rng.choice(list(orders))
            one, other = sorted(rng.sample(orders[name], 2), key=orders[name].index)
            changes = {**bent[name][other], **bent[name][one]}
            self.check(name, one, **changes)


class RowTest(unittest.TestCase):
    def test_look(self):
        papers = [make() for make in MAKERS.values()]
        self.assertEqual(list(look(*papers)), [(name, None) for name in MAKERS])
        papers.insert(2, fair_paper(course=LOST))
        papers.append(root_paper(many=1))
        told = list(look(*papers))
        self.assertEqual((told[2], told[-1], len(told)), (("fair", "keeps"), ("root", "made"), 8))
        self.assertEqual(next(iter(look(*papers))), ("fair", None))
        self.assertEqual(list(look()), [])

    def test_first_fault(self):
        papers = [make() for make in MAKERS.values()]
        self.assertIsNone(first_fault(*papers))
        self.assertIsNone(first_fault())
        for at in range(len(papers)):
            bent = [*papers[:at], unfair_paper(second=7), *papers[at:], made_paper(counts=[])]
            self.assertEqual(first_fault(*bent), (at, "table"))
        self.assertEqual(first_fault(barred_paper(reading=Reading(WEIGHTS))), (0, "bits"))

    def test_one_by_one(self):
        # a generator: papers behind the first one are not looked at ahead of time
        rows = look(fair_paper(), None)
        self.assertEqual(next(rows), ("fair", None))
        self.assertRaises(AttributeError, next, rows)


if __name__ == "__main__":
    unittest.main()
