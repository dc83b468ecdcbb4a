"""Promise 95: a bench from its text, and bent texts."""

import random
import unittest

from tests.samples import TWO, any_values, some_exchange
from turnsleft.bench import Bench
from turnsleft.benchtexts import read_bench, write_bench
from turnsleft.errors import BadLine, NoEntry
from turnsleft.exchanges import Exchange
from turnsleft.moves import arranged, fold
from turnsleft.ratios import Ratio
from turnsleft.words import is_name

FIFTH = Ratio(3, 2)
NINE = Ratio(9, 8)
TWICE = arranged([Ratio(prime) for prime in (2, 3, 5, 7)], [3, 2, 1, 0])
SIGNS = "\n 0123456789/:,.abyz-=#"


def some_bench(rng):
    """A bench with some lines."""
    bench = Bench()
    for name in rng.sample(["a", "b", "line", "zz", "limit", "none", "abcdef"], rng.randint(0, 4)):
        exchange = some_exchange(rng, rng.randint(1, 4))
        bench.do(("line", name, exchange.top), ("do", name, exchange))
    limit = rng.choice([None, 3, max([0, *[bench.owed_by(name) for name in bench.names()]])])
    bench.do(("limit", limit))
    return bench


def wrong_line(text):
    """The first wrong line of a text, and the limit and the lines of a text without wrong ones; told anew."""
    rows = text.split("\n")
    limit, lines = None, {}
    for at, row in enumerate(rows):
        if at == len(rows) - 1:
            return (at if row != "" or at == 0 else None), limit, lines
        if at == 0:
            if row not in ("limit none", "limit 0", "limit 1", "limit 2", "limit 3"):
                return 0, None, {}
            limit = None if row == "limit none" else int(row[-1])
            continue
        words = row.split(" ", 1)
        try:
            exchange = Exchange.read(words[1])
        except (IndexError, ValueError):
            return at, None, {}
        if not is_name(words[0]) or words[0] in lines or len(lines) == 6:
            return at, None, {}
        if limit is not None and exchange.owed > limit:
            return at, None, {}
        lines[words[0]] = exchange
    return None, limit, lines


class ReadTest(unittest.TestCase):
    def check_wrong(self, text, line):
        with self.assertRaises(BadLine) as caught:
            read_bench(text)
        self.assertEqual(caught.exception.line, line)

    def test_there_and_back(self):
        rng = random.Random(1)
        for _ in range(25):
            bench = some_bench(rng)
            text = bench.text()
            self.assertEqual(write_bench(bench), text)
            self.assertEqual(write_bench(bench=bench), text)
            again = read_bench(text)
            self.assertIsInstance(again, Bench)
            self.assertTrue(again == bench)
            self.assertEqual((again.text(), again.names(), again.limit), (text, bench.names(), bench.limit))
            self.assertEqual((again.history(), again.journal(), again.busy), ((0, 0), [], False))
            self.assertRaises(NoEntry, again.undo)
            self.assertRaises(NoEntry, again.redo)
            again.do(("line", "q", TWO))
            self.assertFalse(again == bench)
            again.undo()
            self.assertTrue(again == read_bench(text=text))

    def test_texts(self):
        self.assertEqual(write_bench(Bench()), "limit none\n")
        bench = Bench()
        bench.do(("line", "a", TWO), ("fold", "a", FIFTH), ("limit", 2), ("line", "b", NINE))
        self.assertEqual(bench.text(), "limit 2\na 2: 1 4/3 3/2, 4/3 3/2 3/4\nb 9/8: 1 9/8 1\n")
        self.assertTrue(read_bench("limit 2\na 2: 1 4/3 3/2, 4/3 3/2 3/4\nb 9/8: 1 9/8 1\n") == bench)

    def test_other_values(self):
        for value in any_values():
            if not isinstance(value, str):
                self.check_wrong(value, 0)
        self.check_wrong("", 0)

    def test_limit_lines(self):
        good = "a 2: 1 2 1\n"
        for text in [
            "limit none", "limit 4\n", "limit\n", "limit \n", "limit -1\n", "limit 00\n", "limit None\n", " limit none\n",
            "limit none \n", "limit  none\n", "Limit none\n", "\n", "\nlimit none\n", good, f"{good}limit none\n", "limit 1 1\n",
            "limit 1,\n", "limitnone\n", "none\n",
        ]:
            self.check_wrong(text, 0)
        for limit in ("none", "0", "1", "2", "3"):
            self.assertEqual(read_bench(f"limit {limit}\n{good}").limit, None if limit == "none" else int(limit))

    def test_wrong_lines(self):
        good = "a 2: 1 2 1\n"
        for row in [
            "", "a", "a ", "b 2", "b 2:", "b 2: ", "b 2: 1 2", "b 2: 1 2 1,", "b 2: 1 2 1 ", "b  2: 1 2 1", "b 2 1 2 1", "b 4/2: 1 2 1",
            "b 2: 1 4/2 1", "b 2:1 2 1", "b 2: 1 3/2 1, 3/2 4/3 1", "b 2: 4/3 3/2 3/4, 1 4/3 3/2", "b 2: 1 3/2 1", "b 1: 1 1 1",
            "B 2: 1 2 1", "bbbbbbb 2: 1 2 1", "2: 1 2 1", "b 2: 1 2 1; 1", "b 2: 1 2 01", "a 2: 1 2 1", "b 17: 1 17 1", " b 2: 1 2 1",
        ]:
            self.check_wrong(f"limit none\n{good}{row}\n", 2)
            self.check_wrong(f"limit none\n{good}{row}\nwrong\n", 2)
        self.check_wrong(f"limit none\n{good}\n", 2)
        self.check_wrong(f"limit none\n{good}b 2: 1 2 1", 2)
        self.check_wrong(f"limit none\n{good}b", 2)
        # the first wrong line counts
        self.check_wrong("limit none\nb\nb 2: 1 2 1", 1)

    def test_six_lines(self):
        rows = [f"{name} 2: 1 2 1\n" for name in "abcdefg"]
        self.assertEqual(len(read_bench("limit none\n" + "".join(rows[:6]))), 6)
        self.check_wrong("limit none\n" + "".join(rows), 7)
        self.check_wrong("limit none\n" + "".join(rows[:6]) + "wrong\n", 7)

    def test_what_is_owed(self):
        owing = f"a {TWICE.text()}\n"
        for limit, line in (("none", None), ("3", None), ("2", None), ("1", 1), ("0", 1)):
            text = f"limit {limit}\n{owing}b 2: 1 2 1\n"
            if line is None:
                self.assertEqual(read_bench(text).owed_by("a"), 2)
            else:
                self.check_wrong(text, line)
        self.check_wrong(f"limit 0\nb 2: 1 2 1\nc {fold(TWO, FIFTH).text()}\n{owing}", 2)

    def test_bent_texts(self):
        rng = random.Random(2)
        lets = 0
        for _ in range(800):
            text = some_bench(rng).text()
            at = rng.randrange(len(text))
            bent = rng.choice([
                text[:at] + text[at + 1:], text[:at] + rng.choice(SIGNS) + text[at:], text[:at] + rng.choice(SIGNS) + text[at + 1:],
                text[:at] + text[at + 1:at + 2] + text[at] + text[at + 2:],
            ])
            line, limit, lines = wrong_line(bent)
            if line is not None:
                self.check_wrong(bent, line)
                continue
            lets += 1
            found = read_bench(bent)
            self.assertEqual((found.limit, found.names()), (limit, list(lines)))
            self.assertEqual([found.exchange_of(name) for name in lines], list(lines.values()))
            self.assertEqual((found.text(), found.history()), (bent, (0, 0)))
        self.assertGreater(lets, 10)


if __name__ == "__main__":
    unittest.main()
