"""Keys, pieces, words of two letters, and swaps that leave fewer pieces."""

import random
import unittest

from tests.samples import ONE, some_exchange, some_ratio, some_swap
from turnsleft.corners import groups_of, matched_corners
from turnsleft.keys import is_below, key_of, ratio_at
from turnsleft.making import course_for
from turnsleft.moves import still
from turnsleft.peeling import peeled
from turnsleft.pieces import swapped
from turnsleft.ratios import Ratio, ratio_with


class KeysTest(unittest.TestCase):
    def test_sums_and_order(self):
        rng = random.Random(1)
        for most in (1, 3, 40, 3000):
            for _ in range(30):
                one, other = some_ratio(rng, most), some_ratio(rng, most)
                self.assertEqual(ratio_at(key_of(one)), one)
                self.assertEqual(key_of(one) + key_of(other), key_of(one * other))
                self.assertIs(is_below(key_of(one), key_of(other)), one.below(other))
                self.assertIs(is_below(key_of(one), key_of(one)), False)
        self.assertEqual(key_of(ONE), 0)

    def test_next_to_each_other(self):
        # these products are so near to 1 that logarithms do not tell them from it, and the powers decide
        near = [
            [340936, 58154, 199627, 941901, 478896, -1404586], [-743971, -376795, -299736, 109155, 45330, 425325],
            [-598553, 439413, -422629, 28865, 263496, -29501],
        ]
        for powers in near + [[2, -1, 0, 0, 0, 0], [-19, 12, 0, 0, 0, 0], [24727, -15601, 0, 0, 0, 0]]:
            ratio = ratio_with(powers)
            self.assertIs(is_below(0, key_of(ratio)), ONE.below(ratio))
            self.assertIs(is_below(key_of(ratio), 0), ratio.below(ONE))
            self.assertIs(is_below(key_of(ratio) + 5, key_of(ratio) + 5), False)


class PiecesTest(unittest.TestCase):
    def test_like_exchanges(self):
        rng = random.Random(2)
        for _ in range(20):
            done = still(Ratio(4))
            pieces = [(0, key_of(Ratio(4)), 0)]
            for _ in range(rng.randint(1, 8)):
                swap = some_swap(rng, Ratio(4))
                done = done >> swap.on(Ratio(4))
                pieces = swapped(pieces, key_of(swap.first), key_of(swap.second), key_of(swap.length))
            found = [(ratio_at(home), ratio_at(length), ratio_at(place - home)) for place, length, home in pieces]
            self.assertEqual(len(found), len(done))
            for row in done.rows():
                self.assertIn(row, found)


class PeeledTest(unittest.TestCase):
    def test_swaps_taken_off(self):
        rng = random.Random(3)
        for many in (1, 2, 3, 6, 12):
            done = still(Ratio(12))
            for _ in range(many):
                done = done >> some_swap(rng, Ratio(12)).on(Ratio(12))
            self.assertLessEqual(len(course_for(done)), 3 * many)

    def test_left_behind(self):
        rng = random.Random(4)
        for _ in range(20):
            exchange = some_exchange(rng, 5)
            rows = exchange.rows()
            laid = [rows[at] for at in exchange.laid()]
            pieces = [(key_of(start * factor), key_of(length), key_of(start)) for start, length, factor in laid]
            left, swaps = peeled(pieces)
            self.assertLessEqual(len(left), len(pieces))
            again = pieces
            for first, second, length in swaps:
                again = swapped(again, first, second, length)
            self.assertEqual(again, left)


def spelt(groups, letters):
    """The word with some groups and so many letters b."""
    word = ""
    for width, height in groups:
        word += "b" * (height - word.count("b")) + "a" * width
    return word + "b" * (letters - word.count("b"))


def runs_of(word):
    """The runs of a word, as groups_of takes them."""
    return [(1, 0) if letter == "a" else (0, 1) for letter in word]


class CornersTest(unittest.TestCase):
    def test_words_led(self):
        rng = random.Random(5)
        done = 0
        while done < 60:
            word = [rng.choice("ab") for _ in range(rng.randint(2, 14))]
            now = "".join(word)
            rng.shuffle(word)
            wished = "".join(word)
            area = [sum(height * width for width, height in groups_of(runs_of(text))) for text in (now, wished)]
            if area[0] != area[1]:
                continue
            done += 1
            letters = now.count("b")
            self.assertEqual(spelt(groups_of(runs_of(now)), letters), now)
            here = now
            for (_, begin, height), (_, far, level), (wide, high) in matched_corners(
                    [(groups_of(runs_of(now)), groups_of(runs_of(wished)))]):
                one, other = begin + height, far + level
                size = wide + high
                self.assertEqual(here[one:one + size], "b" * high + "a" * wide)
                self.assertEqual(here[other:other + size], "a" * wide + "b" * high)
                parts = list(here)
                parts[one:one + size], parts[other:other + size] = here[other:other + size], here[one:one + size]
                here = "".join(parts)
            self.assertEqual(here, wished)


if __name__ == "__main__":
    unittest.main()
