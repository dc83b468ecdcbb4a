"""Promise 87: what a bench answers."""

import random
import unittest

from tests.samples import ONE, TWO, fraction, some_tones
from turnsleft.bench import Bench
from turnsleft.moves import fold
from turnsleft.ratios import Ratio
from turnsleft.words import read_tone, tone_text

FIFTH = Ratio(3, 2)
NINE = Ratio(9, 8)


def some_bench():
    """A bench with three lines."""
    bench = Bench()
    bench.do(("line", "a", TWO), ("fold", "a", FIFTH), ("swap", "a", ONE, FIFTH, NINE))
    bench.do(("line", "bcd", Ratio(3, 1)), ("line", "zzzzzz", TWO), ("fold", "zzzzzz", NINE))
    return bench


class AnswersTest(unittest.TestCase):
    def check(self, bench, line, wished):
        self.assertEqual(bench.say(line), wished)
        self.assertEqual(bench(line), wished)

    def test_of_the_bench(self):
        bench = some_bench()
        self.check(bench, "names", "a bcd zzzzzz")
        self.check(bench, "limit", "none")
        self.check(bench, "together", "1")
        bench.do(("limit", 1))
        self.check(bench, "limit", "1")
        bench.do(("home", "a"), ("home", "zzzzzz"), ("limit", 0))
        self.check(bench, "limit", "0")
        self.check(bench, "together", "0")
        self.check(Bench(), "names", "none")
        self.check(Bench(), "limit", "none")
        self.check(Bench(), "together", "0")

    def test_of_lines(self):
        bench = some_bench()
        one = bench.exchange_of("a")
        self.check(bench, "top a", "2")
        self.check(bench, "top bcd", "3")
        self.check(bench, "wedge a", one.wedge.text())
        self.check(bench, "wedge bcd", "nothing")
        self.check(bench, "owed a", "1")
        self.check(bench, "owed bcd", "0")
        self.check(bench, "text a", one.text())
        self.check(bench, "text bcd", "3: 1 3 1")
        self.check(bench, "fair a", "no")
        self.check(bench, "fair bcd", "yes")
        self.check(bench, "roots a", "1")
        self.check(bench, "roots bcd", "all")
        self.check(bench, "roots zzzzzz", "1 2")
        bench.do(("do", "zzzzzz", fold(TWO, NINE).times(5)))
        self.check(bench, "roots zzzzzz", "1 2 3 4 6 12")
        bench.do(("line", "half", Ratio(9, 8)))
        self.check(bench, "top half", "9/8")

    def test_same(self):
        bench = some_bench()
        bench.do(("line", "b", TWO), ("fold", "b", FIFTH))
        self.check(bench, "same a b", "yes")
        self.check(bench, "same b a", "yes")
        self.check(bench, "same a a", "yes")
        self.check(bench, "same a zzzzzz", "no")
        self.check(bench, "same a bcd", "no")
        bench.do(("home", "b"))
        self.check(bench, "same b bcd", "no")

    def test_sent(self):
        bench = some_bench()
        exchange = bench.exchange_of("a")
        rng = random.Random(1)
        for value in some_tones(rng, TWO, 20):
            answer = bench(f"sent a {tone_text(value)}")
            self.assertEqual(read_tone(answer), exchange(value))
            self.assertEqual(answer, tone_text(exchange(value)))
        self.check(bench, "sent bcd 2", "2")
        self.check(bench, "sent bcd 17/16", "17/16")
        self.check(bench, "sent bcd 1", "1")
        near = f"{10**1999 - 1}/{10**1999 - 2}"
        value = read_tone(near)
        self.check(bench, f"sent a {near}", tone_text(exchange(value)))
        self.assertGreater(fraction(value), 1)

    def test_undo_and_redo(self):
        bench = some_bench()
        self.check_pair(bench, "undo", "redo")
        self.assertEqual(bench("undo"), "done")
        self.assertEqual((bench.names(), bench.history()), (["a"], (1, 1)))
        self.assertEqual(bench.say("undo"), "done")
        self.assertEqual(bench("undo"), "error NoEntry")
        self.assertEqual(bench("redo"), "done")
        self.assertEqual(bench("redo"), "done")
        self.assertEqual(bench.say("redo"), "error NoEntry")
        self.assertTrue(bench == some_bench())

    def check_pair(self, bench, first, second):
        self.assertEqual([bench(first), bench(second), bench.say(second)], ["done", "done", "error NoEntry"])

    def test_errors(self):
        bench = some_bench()
        for word in ("top", "wedge", "owed", "text", "fair", "roots"):
            for name in ("b", "A", "9", "aa", "abcdefg", "a,", "none"):
                self.check(bench, f"{word} {name}", "error UnknownName")
        for line in ("same a b", "same b a", "same b c", "sent b 1", "sent b x", "sent A 5/4"):
            self.check(bench, line, "error UnknownName")
        long = "1" * 2001
        for word in ("2", "5/2", "1/2", "0", "01", "6/4", "4/2", "1/1", "-1", "x", "3/2/1", "3/", "/2", "1.5", "+1", long):
            self.check(bench, f"sent a {word}", "error NotOnLine")
        # an error changes nothing
        self.assertTrue(bench == some_bench())

    def test_unknown(self):
        bench = some_bench()
        for line in [
            "", " ", "name", "Names", "names ", " names", "names a", "limit 1", "limit none", "together a", "top", "top a b",
            "top  a", "top a ", " top a", "top ", "wedge", "owed", "text", "fair", "roots", "same", "same a", "same a b c",
            "same a  bcd", "sent", "sent a", "sent a 1 1", "sent a ", "sent  1", "undo a", "redo a", "undo ", "redo\n", "names\n",
            "\nnames", "top\na", "top a\n", "top a\nb", "top \n", "sent a 1\n", "do", "line a 2", "drop a", "busy", "history",
            "top a a a a", "error", "unknown", "same  ", "top  ", "sent a\n1", "same a a\n",
        ]:
            self.check(bench, line, "unknown")
        self.assertTrue(bench == some_bench())
        self.assertEqual(bench.history(), (2, 0))

    def test_by_name(self):
        bench = some_bench()
        self.assertEqual((bench(line="owed a"), bench.say(line="owed a")), ("1", "1"))


if __name__ == "__main__":
    unittest.main()
