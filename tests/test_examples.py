"""The examples of the document that need no more than the modules that are there."""

import unittest

from turnsleft.errors import NotFair, NotFilled
from turnsleft.exchanges import Exchange
from turnsleft.folds import fold_for
from turnsleft.lattices import Lattice
from turnsleft.making import course_for
from turnsleft.moves import Swap, Turn, fold
from turnsleft.ratios import Ratio


class ExamplesTest(unittest.TestCase):
    def test_ratios(self):
        one = Ratio(18, 16)
        found = [one.text(), one.powers(), (one * Ratio(4, 3)).text(), (one // Ratio(10, 9)).text()]
        self.assertEqual(found, ["9/8", (-3, 2, 0, 0, 0, 0), "3/2", "81/80"])

    def test_fold(self):
        fifth = fold(Ratio(2), Ratio(3, 2))
        found = [fifth.text(), fifth((5, 3)), fifth.wedge.text(), fifth.owed, fifth.fair]
        self.assertEqual(found, ["2: 1 4/3 3/2, 4/3 3/2 3/4", (5, 4), "2.3=1 3", 1, False])

    def test_turn(self):
        turn = Turn(Ratio(1), Ratio(9, 8), Ratio(10, 9))
        found = [turn.wedge.text(), repr(turn.smaller())]
        self.assertEqual(found, ["2.3=4 2.5=-3 3.5=2 2", "(Swap(81/80, 9/8, 10/9), Turn(1, 81/80, 10/9))"])

    def test_swap(self):
        swap = Swap(Ratio(1), Ratio(3, 2), Ratio(9, 8)).on(Ratio(2))
        found = [swap.text(), swap.wedge.text(), swap.fair]
        self.assertEqual(found, ["2: 1 9/8 3/2, 9/8 4/3 1, 3/2 9/8 2/3, 27/16 32/27 1", "2", True])

    def test_not_filled(self):
        with self.assertRaises(NotFilled) as caught:
            Exchange(Ratio(2), [(Ratio(1), Ratio(3, 2), Ratio(1))])
        self.assertEqual(caught.exception.missing, Ratio(4, 3))

    def test_fold_for(self):
        tone = fold(Ratio(2), Ratio(9, 8))
        self.assertEqual(repr(fold_for(tone.times(3))), "Ratio(729/512)")

    def test_lattice(self):
        lattice = Lattice(2, (2, 4), (3, 1))
        found = [lattice.staircase(), (0, 10) in lattice, (0, 5) in lattice, len(lattice)]
        self.assertEqual(found, [[(1, 7), (0, 10)], True, False, 2])

    def test_not_fair(self):
        with self.assertRaises(NotFair) as caught:
            course_for(fold(Ratio(2), Ratio(3, 2)))
        self.assertEqual((caught.exception.first, caught.exception.second), (2, 3))


if __name__ == "__main__":
    unittest.main()
