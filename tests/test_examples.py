"""The examples of the document."""

import unittest

from turnsleft.bench import Bench
from turnsleft.errors import NotFair, NotFilled
from turnsleft.exchanges import Exchange
from turnsleft.folds import fold_for
from turnsleft.lattices import Lattice
from turnsleft.making import course_for
from turnsleft.mirrors import mirror
from turnsleft.moves import Swap, Turn, fold
from turnsleft.paintings import Painting
from turnsleft.ratios import Ratio
from turnsleft.roots import root_numbers
from turnsleft.scales import Scale
from turnsleft.windows import Window


class ExamplesTest(unittest.TestCase):
    def test_ratios(self):
        one = Ratio(18, 16)
        found = [one.text(), one.powers(), (one * Ratio(4, 3)).text(), (one // Ratio(10, 9)).text()]
        self.assertEqual(found, ["9/8", (-3, 2, 0, 0, 0, 0), "3/2", "81/80"])

    def test_fold(self):
        fifth = fold(Ratio(2), Ratio(3, 2))
        found = [fifth.text(), fifth((5, 3)), fifth.wedge.text(), fifth.owed, fifth.fair]
        self.assertEqual(found, ["2: 1 4/3 3/2, 4/3 3/2 3/4", (5, 4), "2.3=1 3", 1, False])

    def test_turn(self):
        turn = Turn(Ratio(1), Ratio(9, 8), Ratio(10, 9))
        found = [turn.wedge.text(), repr(turn.smaller())]
        self.assertEqual(found, ["2.3=4 2.5=-3 3.5=2 2", "(Swap(81/80, 9/8, 10/9), Turn(1, 81/80, 10/9))"])

    def test_swap(self):
        swap = Swap(Ratio(1), Ratio(3, 2), Ratio(9, 8)).on(Ratio(2))
        found = [swap.text(), swap.wedge.text(), swap.fair]
        self.assertEqual(found, ["2: 1 9/8 3/2, 9/8 4/3 1, 3/2 9/8 2/3, 27/16 32/27 1", "2", True])

    def test_window(self):
        window = Window(fold(Ratio(2), Ratio(3, 2)), low=Ratio(1), high=Ratio(3, 2))
        found = [repr(window.towers()), window.seen().text(), window.shift().text(), window.alone().text()]
        self.assertEqual(found, [
            "[(Ratio(1), Ratio(4/3), 2), (Ratio(4/3), Ratio(9/8), 1)]", "2: 1 4/3 9/8, 4/3 9/8 3/4, 3/2 4/3 1",
            "2: 1 4/3 3/2, 4/3 9/8 1, 3/2 4/3 2/3", "3/2: 1 4/3 9/8, 4/3 9/8 3/4",
        ])

    def test_scales(self):
        nine, ten, half = Ratio(9, 8), Ratio(10, 9), Ratio(16, 15)
        major = Scale(nine, ten, half, nine, ten, nine, half)
        minor = Scale(nine, half, ten, nine, half, nine, ten)
        way = major.led_to(minor)
        crossings = "[(Ratio(16/15), Ratio(10/9), -2), (Ratio(16/15), Ratio(9/8), -1), (Ratio(10/9), Ratio(9/8), 1)]"
        found = [way.wedge.text(), way.owed, repr(major.crossings(minor))]
        self.assertEqual(found, ["2.3=5 2.5=-4 3.5=2 2", 1, crossings])

    def test_paintings(self):
        one = Painting(Ratio(2), [(Ratio(3, 2), "red"), (Ratio(4, 3), "blue")])
        other = Painting(Ratio(2), [(Ratio(4, 3), "blue"), (Ratio(3, 2), "red")])
        course = one.course_to(other)
        found = [one.after(course.made()) == other, course.room == Ratio(2), one.colour((7, 4))]
        self.assertEqual(found, [True, True, "blue"])

    def test_mirrors(self):
        whole = mirror(Ratio(2), Ratio(1), Ratio(2))
        found = [whole((3, 2)), whole((1, 1)), whole.parity[2], len(whole >> whole)]
        self.assertEqual(found, [(4, 3), None, (1, 0, 0, 0, 0, 0), 1])

    def test_bench(self):
        bench = Bench()
        swap = ("swap", "a", Ratio(1), Ratio(3, 2), Ratio(9, 8))
        self.assertIsNone(bench.do(("line", "a", Ratio(2)), ("fold", "a", Ratio(3, 2)), swap))
        found = [bench("owed a"), bench("wedge a"), bench("sent a 1"), bench.history(), bench("owed b"), bench("Owed a")]
        self.assertEqual(found, ["1", "2.3=1 2 3", "1", (1, 0), "error UnknownName", "unknown"])

    def test_not_filled(self):
        with self.assertRaises(NotFilled) as caught:
            Exchange(Ratio(2), [(Ratio(1), Ratio(3, 2), Ratio(1))])
        self.assertEqual(caught.exception.missing, Ratio(4, 3))

    def test_fold_for(self):
        tone = fold(Ratio(2), Ratio(9, 8))
        found = [root_numbers(tone), root_numbers(fold(Ratio(2), Ratio(3, 2))), repr(fold_for(tone.times(3)))]
        self.assertEqual(found, [[1, 2], [1], "Ratio(729/512)"])

    def test_lattice(self):
        lattice = Lattice(2, (2, 4), (3, 1))
        found = [lattice.staircase(), (0, 10) in lattice, (0, 5) in lattice, len(lattice)]
        self.assertEqual(found, [[(1, 7), (0, 10)], True, False, 2])

    def test_not_fair(self):
        with self.assertRaises(NotFair) as caught:
            course_for(fold(Ratio(2), Ratio(3, 2)))
        self.assertEqual((caught.exception.first, caught.exception.second), (2, 3))


if __name__ == "__main__":
    unittest.main()
