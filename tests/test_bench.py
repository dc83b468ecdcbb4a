"""Promises 84, 85, 86 and 96: benches told, whole calls refused, back and forth, and what a bench owes."""

import random
import unittest

from tests.samples import ONE, TWO, any_values, shuffled, some_lengths
from turnsleft.bench import Bench
from turnsleft.errors import (
    BadDeed, BadExchange, BadLength, BadLimit, BadName, BadRatio, BadStart, BadTop, Double, Meet, NoEntry, OffLine,
    OtherLine, OwesMore, TooMany, UnknownName,
)
from turnsleft.exchanges import Exchange
from turnsleft.moves import Swap, Turn, arranged, fold, still
from turnsleft.ratios import Ratio, is_length, is_ratio, multiplied
from turnsleft.words import is_name

THREE = Ratio(3)
NINE = Ratio(9, 8)
FIFTH = Ratio(3, 2)
FOURTH = Ratio(4, 3)
# loose lengths laid the other way round owe two and three turns
PRIMES = [Ratio(prime) for prime in (2, 3, 5, 7, 11, 13)]
TWICE = arranged(PRIMES[:4], [3, 2, 1, 0])
THRICE = arranged(PRIMES, [5, 4, 3, 2, 1, 0])


def some_bench():
    """A bench with two lines and some history."""
    bench = Bench()
    bench.do(("line", "a", TWO), ("line", "b", THREE))
    bench.do(("fold", "a", FIFTH))
    bench.do(("turn", "b", ONE, NINE, FOURTH), ("swap", "b", ONE, FIFTH, NINE))
    return bench


def state_of(bench):
    """All that a bench tells of itself."""
    lines = [(name, bench.exchange_of(name)) for name in bench.names()]
    return bench.limit, lines, bench.history(), bench.journal(), bench.text()


class ToldTest(unittest.TestCase):
    def test_new_bench(self):
        bench = Bench()
        self.assertEqual((bench.limit, bench.together, bench.busy, bench.names(), bench.history()), (None, 0, False, [], (0, 0)))
        self.assertEqual((len(bench), bool(bench), repr(bench), bench.text()), (0, True, "Bench(0 lines)", "limit none\n"))
        self.assertEqual(bench.journal(), [])

    def test_deeds(self):
        bench = some_bench()
        one = fold(TWO, FIFTH)
        other = Turn(ONE, NINE, FOURTH).on(THREE) >> Swap(ONE, FIFTH, NINE).on(THREE)
        self.assertEqual((bench.names(), len(bench), repr(bench)), (["a", "b"], 2, "Bench(2 lines)"))
        self.assertEqual((bench.exchange_of("a"), bench.exchange_of(name="b")), (one, other))
        self.assertEqual((bench.owed_by("a"), bench.owed_by(name="b")), (1, 1))
        self.assertEqual(bench.together, (one.wedge + other.wedge).owed)
        self.assertEqual(bench.text(), f"limit none\na {one.text()}\nb {other.text()}\n")
        bench.do(("do", "a", one), ("home", "b"), ("limit", 2), ("line", "zz", NINE))
        self.assertEqual((bench.exchange_of("a"), bench.exchange_of("b"), bench.limit), (one >> one, still(THREE), 2))
        bench.do(("drop", "a"))
        self.assertEqual((bench.names(), bench.owed_by("b")), (["b", "zz"], 0))
        bench.do(("line", "a", TWO))
        self.assertEqual(bench.names(), ["b", "zz", "a"])
        bench.do(("limit", None))
        self.assertIsNone(bench.limit)
        self.assertIsNone(bench.do(("home", "a")))

    def test_in(self):
        bench = some_bench()
        for value in [*any_values(), "b", "ab", "A", "a "]:
            self.assertIs(value in bench, isinstance(value, str) and value in ("a", "b"))

    def test_unknown_names(self):
        bench = some_bench()
        for value in [*any_values(), "c", "abcdefg", "A"]:
            if isinstance(value, str) and value == "a":
                continue
            for ask in (bench.exchange_of, bench.owed_by, lambda name: bench.same(name, None), lambda name: bench.same("a", name)):
                with self.assertRaises(UnknownName) as caught:
                    ask(value)
                self.assertIs(caught.exception.name, value)
        with self.assertRaises(UnknownName) as caught:
            bench.same("x", "y")
        self.assertEqual(caught.exception.name, "x")

    def test_same(self):
        bench = Bench()
        bench.do(("line", "a", TWO), ("line", "b", TWO), ("line", "c", THREE))
        self.assertIs(bench.same("a", "b"), True)
        self.assertIs(bench.same("a", "c"), False)
        bench.do(("fold", "a", FIFTH), ("swap", "b", ONE, FIFTH, NINE))
        self.assertIs(bench.same("a", "b"), False)
        self.assertIs(bench.same("a", "a"), True)
        bench.do(("fold", "b", FIFTH))
        # other bits, but the same table
        self.assertNotEqual(bench.exchange_of("a").wedge, bench.exchange_of("b").wedge)
        self.assertIs(bench.same(other="b", one="a"), True)

    def test_together(self):
        bench = Bench()
        bench.do(("line", "a", TWO), ("line", "b", TWO))
        bench.do(("fold", "a", FIFTH), ("fold", "b", FOURTH))
        self.assertEqual((bench.owed_by("a"), bench.owed_by("b"), bench.together), (1, 1, 0))
        bench.do(("line", "c", THRICE.top), ("do", "c", THRICE), ("line", "d", TWICE.top), ("do", "d", TWICE))
        self.assertEqual((bench.owed_by("c"), bench.owed_by("d"), bench.together), (3, 2, (THRICE.wedge + TWICE.wedge).owed))

    def test_equal(self):
        bench = some_bench()
        again = some_bench()
        self.assertTrue(bench == again)
        again.do(("limit", 3))
        self.assertFalse(bench == again)
        again.do(("limit", None), ("home", "a"))
        self.assertFalse(bench == again)
        again.do(("fold", "a", FIFTH))
        # the history counts for nothing
        self.assertTrue(bench == again)
        one, other = Bench(), Bench()
        one.do(("line", "a", TWO), ("line", "b", TWO))
        other.do(("line", "b", TWO), ("line", "a", TWO))
        self.assertFalse(one == other)
        self.assertFalse(Bench() == one)
        one.do(("drop", "a"), ("line", "a", TWO))
        self.assertTrue(one == other)
        for value in any_values():
            self.assertFalse(bench == value)

    def test_new_lists(self):
        bench = some_bench()
        bench.names().clear()
        bench.journal().clear()
        self.assertEqual((len(bench.names()), len(bench.journal())), (2, 5))


class BusyTest(unittest.TestCase):
    def test_busy(self):
        bench = Bench()
        bench.do(("line", "a", TWO))
        seen = []

        class Spy(Exchange):
            """An exchange that looks whether the bench is busy when it is asked for its line."""
            @property
            def top(self):
                seen.append(bench.busy)
                return TWO

            @top.setter
            def top(self, value):
                pass

        spy = Spy(TWO, [(ONE, TWO, ONE)])
        seen.clear()
        bench.do(("do", "a", spy))
        self.assertIn(True, seen)
        self.assertNotIn(False, seen)
        self.assertIs(bench.busy, False)
        self.assertRaises(UnknownName, bench.do, ("do", "a", spy), ("home", "b"))
        self.assertIs(bench.busy, False)


class RefusedTest(unittest.TestCase):
    def check(self, bench, error, *deeds, **told):
        before = state_of(bench)
        for ask in (bench.do, bench.tried):
            with self.assertRaises(error) as caught:
                ask(*deeds)
            for name, value in told.items():
                self.assertIs(getattr(caught.exception, name), value)
            self.assertEqual(state_of(bench), before)
            self.assertIs(bench.busy, False)
        # also behind deeds that are all right, which are not done then
        if "at" not in told:
            self.assertRaises(error, bench.do, ("home", "a"), *deeds)
            self.assertEqual(state_of(bench), before)
        twin = bench.twin()
        with self.assertRaises(error):
            Bench.played([*bench.journal(), *deeds])
        self.assertEqual(state_of(twin), before)

    def test_bad_deeds(self):
        bench = some_bench()
        wrong = [
            *any_values(), ["home", "a"], ("Home", "a"), ("home",), ("home", "a", "a"), ("line", "a"), ("drop",), (None, "a"),
            ("swap", "a", ONE, FIFTH), ("turn", "a", ONE, NINE), ("fold", "a"), ("do", "a"), ("limit",), ("limit", 1, 1),
            ("undo", "a"), (["home"], "a"), (("home",), "a"), ("home ", "a"), ("", "a"), ("fold", "a", NINE, NINE),
        ]
        for value in wrong:
            for at in range(3):
                deeds = [("home", "none")] * at + [value, None]
                with self.assertRaises(BadDeed) as caught:
                    bench.do(*deeds)
                self.assertEqual(caught.exception.at, at)
        # ahead of all other errors, even those of earlier deeds
        self.check(bench, BadDeed, ("line", None, None), ("home", "x"), ("home",), at=2)

    def test_lines(self):
        bench = some_bench()
        for value in [*any_values(), "abcdefg", "A", "a b"]:
            if not is_name(value):
                self.check(bench, BadName, ("line", value, None), value=value)
            if not is_length(value):
                self.check(bench, BadTop, ("line", "c", value))
        self.check(bench, Double, ("line", "a", None), name="a")
        self.check(bench, Double, ("line", "c", TWO), ("line", "c", TWO), name="c")
        self.check(bench, BadTop, ("line", "c", ONE))
        bench.do(*[("line", name, TWO) for name in ("c", "d", "e", "f")])
        self.assertEqual(len(bench), 6)
        self.check(bench, Double, ("line", "f", None))
        self.check(bench, BadTop, ("line", "g", ONE))
        with self.assertRaises(TooMany) as caught:
            bench.do(("line", "g", TWO))
        self.assertEqual(caught.exception.most, 6)
        bench.do(("drop", "c"), ("line", "g", TWO))
        self.assertEqual(bench.names(), ["a", "b", "d", "e", "f", "g"])

    def test_unknown_names(self):
        bench = some_bench()
        for value in [*any_values(), "c", "A"]:
            if isinstance(value, str) and value == "a":
                continue
            for deed in [
                ("drop", value), ("swap", value, None, None, None), ("turn", value, None, None, None), ("fold", value, None),
                ("do", value, None), ("home", value),
            ]:
                self.check(bench, UnknownName, deed, name=value)
        self.check(bench, UnknownName, ("drop", "a"), ("home", "a"))

    def test_moves(self):
        bench = some_bench()
        for value in [*any_values(), Ratio(1, 2)]:
            if not is_ratio(value) or value.below(ONE):
                self.check(bench, BadStart, ("swap", "a", value, None, None))
                self.check(bench, BadStart, ("swap", "a", ONE, value, None))
                self.check(bench, BadStart, ("turn", "a", value, None, None))
            if not is_length(value):
                with self.assertRaises(BadLength) as caught:
                    bench.do(("swap", "a", TWO, ONE, value))
                self.assertEqual(caught.exception.at, 0)
                for at, deed in enumerate([("turn", "a", TWO, value, None), ("turn", "a", TWO, TWO, value)]):
                    with self.assertRaises(BadLength) as caught:
                        bench.do(deed)
                    self.assertEqual(caught.exception.at, at)
            if not is_ratio(value):
                self.check(bench, BadRatio, ("fold", "a", value))
            if not isinstance(value, Exchange):
                self.check(bench, BadExchange, ("do", "a", value))
        self.check(bench, Meet, ("swap", "a", ONE, NINE, FIFTH))
        self.check(bench, Meet, ("swap", "a", THREE, ONE, NINE))
        self.check(bench, OffLine, ("swap", "a", ONE, TWO, NINE))
        self.check(bench, OffLine, ("turn", "a", ONE, FIFTH, FIFTH))
        self.check(bench, OtherLine, ("do", "a", still(THREE)))
        bench.do(("swap", "b", ONE, TWO, NINE))

    def test_limits(self):
        bench = some_bench()
        for value in [*any_values(), 4, -1, 10**199]:
            if value is None or isinstance(value, int) and not isinstance(value, bool) and 0 <= value <= 3:
                continue
            self.check(bench, BadLimit, ("limit", value), value=value)
        with self.assertRaises(OwesMore) as caught:
            bench.do(("limit", 0))
        self.assertEqual(caught.exception.name, "a")
        bench.do(("home", "a"))
        with self.assertRaises(OwesMore) as caught:
            bench.do(("limit", 0))
        self.assertEqual(caught.exception.name, "b")
        for value in (1, 2, 3, None):
            bench.do(("limit", value))
            self.assertEqual(bench.limit, value)

    def test_first_deed_that_is_wrong(self):
        bench = some_bench()
        self.check(bench, UnknownName, ("home", "a"), ("home", "x"), ("line", None, None))
        self.check(bench, BadName, ("home", "a"), ("line", None, None), ("home", "x"))
        self.check(bench, Double, ("line", "c", TWO), ("fold", "c", FIFTH), ("line", "c", TWO))


class HistoryTest(unittest.TestCase):
    def test_undo_and_redo(self):
        bench = some_bench()
        last = state_of(bench)
        self.assertEqual(bench.history(), (3, 0))
        states = []
        for many in range(3):
            self.assertIsNone(bench.undo())
            self.assertEqual(bench.history(), (2 - many, many + 1))
            states.append(state_of(bench))
        self.assertTrue(bench == Bench())
        self.assertRaises(NoEntry, bench.undo)
        self.assertEqual(state_of(bench), states[-1])
        for wished in [*states[-2::-1], last]:
            self.assertIsNone(bench.redo())
            self.assertEqual(state_of(bench), wished)
        self.assertRaises(NoEntry, bench.redo)
        self.assertEqual(state_of(bench), last)
        self.assertTrue(bench == some_bench())

    def test_another_entry(self):
        bench = some_bench()
        bench.undo()
        bench.do(("limit", 3))
        self.assertEqual(bench.history(), (3, 0))
        self.assertRaises(NoEntry, bench.redo)
        self.assertEqual(bench.journal()[-1], ("limit", 3))
        bench.undo()
        self.assertIsNone(bench.limit)

    def test_what_leaves_the_history(self):
        bench = some_bench()
        bench.undo()
        before = state_of(bench)
        self.assertIsNone(bench.do())
        self.assertEqual(bench.tried(), bench.text())
        self.assertEqual(bench.tried(("home", "a"), ("limit", 2)), "limit 2\na 2: 1 2 1\nb 3: 1 3 1\n")
        self.assertRaises(UnknownName, bench.do, ("home", "x"))
        self.assertRaises(BadDeed, bench.do, None)
        self.assertRaises(UnknownName, bench.tried, ("home", "a"), ("home", "x"))
        self.assertEqual(state_of(bench), before)
        self.assertEqual(bench.history(), (2, 1))
        bench.redo()
        self.assertTrue(bench == some_bench())

    def test_deeds_that_change_nothing(self):
        bench = some_bench()
        bench.do(("limit", None), ("home", "a"), ("fold", "a", FIFTH))
        self.assertTrue(bench == some_bench())
        self.assertEqual(bench.history(), (4, 0))

    def test_journal(self):
        rng = random.Random(1)
        bench = Bench()
        deeds = [("line", "a", TWO), ("line", "b", TWO)]
        bench.do(*deeds)
        for _ in range(30):
            lengths = [FIFTH, FOURTH]
            deed = rng.choice([
                ("fold", "a", rng.choice([NINE, FIFTH])), ("swap", "b", ONE, FIFTH, NINE), ("home", "a"), ("limit", 3),
                ("do", "b", arranged(lengths, shuffled(rng, 2))), ("turn", "a", ONE, NINE, Ratio(10, 9)),
            ])
            if rng.random() < 0.3 and bench.history()[0] > 1:
                bench.undo()
            elif rng.random() < 0.2 and bench.history()[1]:
                bench.redo()
            else:
                bench.do(deed)
            self.assertTrue(Bench.played(bench.journal()) == bench)
            self.assertTrue(Bench.played(deeds=tuple(bench.journal())) == bench)
            self.assertEqual(Bench.played(bench.journal()).history(), (1, 0))
            self.assertIs(bench.busy, False)
        self.assertEqual(bench.journal()[:2], deeds)
        self.assertTrue(Bench.played([]) == Bench())
        self.assertEqual(Bench.played([]).history(), (0, 0))

    def test_limit_and_undo(self):
        bench = some_bench()
        bench.do(("limit", 1))
        bench.do(("home", "a"), ("limit", None))
        bench.undo()
        self.assertEqual((bench.limit, bench.owed_by("a")), (1, 1))
        bench.redo()
        self.assertEqual((bench.limit, bench.owed_by("a")), (None, 0))

    def test_twins(self):
        bench = some_bench()
        bench.undo()
        twin = bench.twin()
        self.assertEqual(state_of(twin), state_of(bench))
        twin.redo()
        twin.undo()
        twin.undo()
        self.assertEqual((twin.history(), bench.history()), ((1, 2), (2, 1)))
        bench.do(("drop", "a"), ("limit", 3))
        self.assertEqual((twin.names(), twin.limit), (["a", "b"], None))
        twin.redo()
        twin.redo()
        self.assertTrue(twin == some_bench())
        twin.do(("line", "c", TWO))
        self.assertEqual(bench.names(), ["b"])


class OwedTest(unittest.TestCase):
    def check(self, bench, *deeds):
        before = state_of(bench)
        with self.assertRaises(OwesMore) as caught:
            bench.do(*deeds)
        self.assertEqual(caught.exception.name, "a")
        self.assertEqual(state_of(bench), before)

    def test_limits(self):
        for limit in (0, 1, 2, 3, None):
            for exchange in (still(THRICE.top), arranged(PRIMES, [1, 0, 2, 3, 4, 5]), arranged(PRIMES, [1, 0, 3, 2, 4, 5]), THRICE):
                bench = Bench()
                bench.do(("line", "a", THRICE.top), ("limit", limit))
                if limit is not None and exchange.owed > limit:
                    self.check(bench, ("do", "a", exchange))
                    self.assertEqual(bench.owed_by("a"), 0)
                    other = Bench()
                    other.do(("line", "a", THRICE.top), ("do", "a", exchange))
                    self.check(other, ("limit", limit))
                    other.do(("limit", 3), ("home", "a"), ("limit", limit))
                else:
                    bench.do(("do", "a", exchange))
                    self.assertEqual((bench.owed_by("a"), bench.together), (exchange.owed, exchange.owed))

    def test_behind_other_errors(self):
        bench = Bench()
        bench.do(("line", "a", TWO), ("limit", 0))
        self.check(bench, ("turn", "a", ONE, FIFTH, FOURTH))
        self.check(bench, ("fold", "a", FIFTH))
        self.check(bench, ("do", "a", fold(TWO, FIFTH)))
        self.assertRaises(OffLine, bench.do, ("turn", "a", ONE, FIFTH, FIFTH))
        self.assertRaises(BadRatio, bench.do, ("fold", "a", 2))
        self.assertRaises(OtherLine, bench.do, ("do", "a", THRICE))
        # the limit is lifted ahead of it in the same call, and set behind it
        bench.do(("limit", None), ("fold", "a", FIFTH))
        self.check(bench, ("home", "a"), ("fold", "a", NINE), ("limit", 0))
        bench.do(("limit", 1))
        bench.do(("fold", "a", NINE))

    def test_what_never_owes_more(self):
        for limit in (0, 1, 2):
            bench = Bench()
            bench.do(("line", "a", Ratio(60)), ("line", "b", TWO), ("limit", limit))
            if limit > 0:
                bench.do(("turn", "a", ONE, TWO, THREE))
            if limit > 1:
                bench.do(("turn", "a", Ratio(6), Ratio(5, 3), Ratio(7, 4)))
            owed = bench.owed_by("a")
            self.assertEqual(owed, limit)
            bench.do(("swap", "a", ONE, FIFTH, NINE), ("swap", "a", ONE, Ratio(30), TWO), ("turn", "a", ONE, Ratio(4), Ratio(8)))
            self.assertEqual(bench.owed_by("a"), owed)
            bench.do(("fold", "b", Ratio(4)), ("drop", "b"), ("line", "b", TWO), ("turn", "b", ONE, NINE, NINE))
            bench.do(("home", "a"))
            self.assertEqual(bench.owed_by("a"), 0)

    def test_any_deeds(self):
        rng = random.Random(2)
        refused = 0
        for _ in range(40):
            lengths = some_lengths(rng, 5)
            top = multiplied(lengths)
            deeds = [arranged([lengths[at] for at in shuffled(rng, 5)], shuffled(rng, 5)) for _ in range(3)]
            limit = rng.randint(0, 3)
            bench = Bench()
            bench.do(("line", "a", top), ("limit", limit))
            for exchange in deeds:
                whole = bench.exchange_of("a") >> exchange
                if whole.owed > limit:
                    self.check(bench, ("do", "a", exchange))
                    refused += 1
                else:
                    bench.do(("do", "a", exchange))
                    self.assertEqual(bench.exchange_of("a"), whole)
            self.assertLessEqual(bench.owed_by("a"), limit)
        self.assertGreater(refused, 5)


if __name__ == "__main__":
    unittest.main()
