"""Promise 12: atoms of lists of lengths, and stretches cut along words."""

import random
import unittest

from tests.samples import INTERVALS, ONE, TWO, some_length, some_lengths
from turnsleft.atoms import atoms_of, cut_along
from turnsleft.ratios import Ratio, is_length, multiplied
from turnsleft.relations import is_loose


class AtomsTest(unittest.TestCase):
    def check(self, lengths):
        given = list(lengths)
        atoms, words = atoms_of(lengths)
        self.assertEqual(list(lengths), given)
        self.assertIsInstance(atoms, list)
        self.assertIsInstance(words, list)
        self.assertEqual(len(words), len(lengths))
        self.assertTrue(all(is_length(atom) for atom in atoms))
        self.assertTrue(is_loose(atoms))
        used = set()
        for length, word in zip(lengths, words):
            self.assertIsInstance(word, tuple)
            used.update(word)
            counts = [word.count(at) for at in range(len(atoms))]
            self.assertEqual(sum(counts), len(word))
            self.assertEqual(multiplied([atom.power(many) for atom, many in zip(atoms, counts)]), length)
        self.assertEqual(used, set(range(len(atoms))))
        self.assertEqual(atoms_of(lengths), (atoms, words))
        return atoms, words

    def test_small(self):
        self.assertEqual(atoms_of([]), ([], []))
        self.assertEqual(atoms_of(()), ([], []))
        self.check([TWO])
        self.check([TWO, TWO])
        self.check([TWO, Ratio(4), Ratio(8)])
        self.check([Ratio(4), Ratio(8)])
        self.check([Ratio(9, 8), Ratio(10, 9), Ratio(5, 4)])
        self.check([Ratio(2), Ratio(3, 2), Ratio(4, 3)])
        self.check((Ratio(3), Ratio(2), Ratio(6), Ratio(3, 2)))

    def test_loose_lengths_need_no_cut(self):
        lengths = [Ratio(9, 8), Ratio(10, 9), Ratio(16, 15)]
        _, words = self.check(lengths)
        self.assertEqual([len(word) for word in words], [1, 1, 1])

    def test_intervals(self):
        self.check(INTERVALS)
        rng = random.Random(1)
        for many in (2, 3, 5, 7, 9, 12, 20):
            for _ in range(6):
                self.check(some_lengths(rng, many))

    def test_products(self):
        rng = random.Random(2)
        for most in (1, 3, 40):
            for _ in range(8):
                base = [some_length(rng, most) for _ in range(rng.randint(1, 4))]
                self.check([multiplied([rng.choice(base) for _ in range(rng.randint(1, 4))]) for _ in range(8)])

    def test_great_powers(self):
        rng = random.Random(3)
        for many in (2, 5, 6, 7, 8):
            self.check([some_length(rng, 40) for _ in range(many)])
        self.check([Ratio(2**40), Ratio(2**39), Ratio(2**25)])
        self.check([TWO, Ratio(81, 80), Ratio(81, 80).power(30) * TWO, TWO // Ratio(81, 80).power(50)])

    def test_small_steps(self):
        small = [Ratio(81, 80), Ratio(225, 224), Ratio(2401, 2400), Ratio(4375, 4374), Ratio(1001, 1000)]
        self.check(small + [TWO, Ratio(3)])

    def test_long_lists(self):
        rng = random.Random(4)
        self.check(some_lengths(rng, 400))


class CutAlongTest(unittest.TestCase):
    def test_stretches(self):
        atoms = [Ratio(9, 8), Ratio(10, 9)]
        self.assertEqual(cut_along(TWO, (), atoms), [])
        found = cut_along(start=TWO, word=(0, 1, 0), atoms=atoms)
        self.assertEqual(found, [(TWO, atoms[0]), (Ratio(9, 4), atoms[1]), (Ratio(5, 2), atoms[0])])
        self.assertEqual(cut_along(Ratio(1, 3), [1], tuple(atoms)), [(Ratio(1, 3), atoms[1])])
        self.assertEqual(atoms, [Ratio(9, 8), Ratio(10, 9)])

    def test_along_words(self):
        lengths = INTERVALS[:6]
        atoms, words = atoms_of(lengths)
        for length, word in zip(lengths, words):
            stretches = cut_along(ONE, word, atoms)
            start, last = stretches[-1]
            self.assertEqual(start * last, length)
            self.assertEqual([atoms.index(part) for _, part in stretches], list(word))


if __name__ == "__main__":
    unittest.main()
