"""Promises 47 and 48: staircases, and lattices told."""

import random
import unittest

from tests.samples import any_values
from turnsleft.errors import BadNumber, BadRow, NotIn
from turnsleft.lattices import Lattice
from turnsleft.shortening import short_beside, shortened
from turnsleft.stairs import needed_ones, traced_stairs


def times(weights, vector):
    """The sum of the products of items."""
    return sum(one * other for one, other in zip(weights, vector))


def summed(counts, vectors, width):
    """The sum of so many times each vector."""
    return [sum(count * vector[at] for count, vector in zip(counts, vectors)) for at in range(width)]


def some_vectors(rng, width, many, most):
    """So many vectors of a width."""
    return [[rng.randint(-most, most) for _ in range(width)] for _ in range(many)]


def is_staircase(rows):
    """Whether rows have the form of a staircase."""
    leads = []
    for row in rows:
        filled = [at for at, item in enumerate(row) if item != 0]
        if not isinstance(row, tuple) or not filled or row[filled[0]] < 0:
            return False
        leads.append(filled[0])
    if leads != sorted(set(leads)):
        return False
    return all(0 <= row[lead] < rows[at][lead] for at, lead in enumerate(leads) for row in rows[:at])


def some_lattices(rng):
    """Widths and vectors."""
    yield 1, []
    yield 1, [[0]]
    yield 1, [[6], (10,), [-15]]
    yield 24, []
    yield 3, [[0, 0, 0], (0, 0, 0)]
    yield 2, [(2, 4), (3, 1)]
    yield 3, [(0, 0, -5), (0, 3, 1)]
    for width, many, most in [(1, 4, 30), (2, 3, 9), (3, 2, 9), (4, 6, 9), (6, 5, 20), (8, 12, 5), (15, 6, 9), (24, 10, 4)]:
        for _ in range(3):
            yield width, some_vectors(rng, width, many, most)
    # needless vectors, and great ones
    vectors = some_vectors(rng, 5, 2, 6)
    yield 5, vectors + [summed([2, 3], vectors, 5), summed([-1, 4], vectors, 5), [0] * 5] + vectors
    yield 4, some_vectors(rng, 4, 4, 10**60)
    yield 3, some_vectors(rng, 3, 60, 50)


class StairsTest(unittest.TestCase):
    def test_form_and_lattice(self):
        rng = random.Random(1)
        for width, vectors in some_lattices(rng):
            lattice = Lattice(width, *vectors)
            rows = lattice.staircase()
            self.assertIsInstance(rows, list)
            self.assertTrue(is_staircase(rows))
            self.assertEqual(len(lattice), len(rows))
            # each one is in the lattice of the other one
            again = Lattice(width, *rows)
            self.assertTrue(all(row in lattice for row in rows))
            self.assertTrue(all(vector in again for vector in vectors))
            self.assertEqual(again, lattice)
            self.assertEqual(again.staircase(), rows)
            # in another order, with others added, negative
            other = [[-item for item in vector] for vector in vectors]
            rng.shuffle(other)
            self.assertEqual(Lattice(width, *other), lattice)
            if len(vectors) > 1:
                added = [[one + 3 * two for one, two in zip(vectors[0], vectors[1])], *vectors[1:]]
                self.assertEqual(Lattice(width, *added).staircase(), rows)

    def test_example(self):
        lattice = Lattice(2, (2, 4), (3, 1))
        found = [lattice.staircase(), (0, 10) in lattice, (0, 5) in lattice, len(lattice)]
        self.assertEqual(found, [[(1, 7), (0, 10)], True, False, 2])

    def test_in(self):
        rng = random.Random(2)
        for width, vectors in some_lattices(rng):
            lattice = Lattice(width, *vectors)
            self.assertIs([0] * width in lattice, True)
            for _ in range(5):
                counts = [rng.randint(-4, 4) for _ in vectors]
                vector = summed(counts, vectors, width)
                self.assertIs(vector in lattice, True)
                self.assertIs(tuple(vector) in lattice, True)
                wrong = vector[:-1] + [vector[-1] + 1]
                # another vector is in it exactly if it changes nothing to add it
                self.assertIs(wrong in lattice, Lattice(width, *vectors, wrong) == lattice)
            for value in [[0] * (width + 1), [0] * (width - 1), [0] * (width - 1) + [True], {}] + any_values():
                if value != [0] and value != (0,):
                    self.assertIs(value in lattice, isinstance(value, (list, tuple)) and value in ([2], (2,)) and width == 1
                                  and Lattice(1, *vectors, [2]) == lattice)

    def test_equal(self):
        self.assertNotEqual(Lattice(2, (0, 1)), Lattice(3, (0, 1, 0)))
        self.assertNotEqual(Lattice(1), Lattice(2))
        self.assertNotEqual(Lattice(1, (2,)), Lattice(1, (3,)))
        self.assertEqual(Lattice(1, (2,), (3,)), Lattice(1, [1]))
        self.assertEqual(Lattice(2), Lattice(2, (0, 0)))
        for value in any_values() + [[(2,)], ((2,),)]:
            self.assertIs(Lattice(1, (2,)) == value, False)


class CountsTest(unittest.TestCase):
    def test_counts_and_bars(self):
        rng = random.Random(3)
        for width, vectors in some_lattices(rng):
            lattice = Lattice(width, *vectors)
            tries = [[0] * width] + some_vectors(rng, width, 4, 3) + [list(row) for row in lattice.staircase()]
            tries += [summed([rng.randint(-3, 3) for _ in vectors], vectors, width) for _ in range(3)]
            tries += [[item if at == place else 0 for at in range(width)] for place in range(width) for item in (1, 6)]
            for vector in tries:
                bar = lattice.bar(vector)
                if vector in lattice:
                    self.assertIsNone(bar)
                    counts = lattice.counts_for(tuple(vector))
                    self.assertIsInstance(counts, tuple)
                    self.assertEqual(len(counts), len(vectors))
                    self.assertEqual(summed(counts, vectors, width), list(vector))
                    self.assertEqual(lattice.counts_for(vector=list(vector)), counts)
                    continue
                self.assertRaises(NotIn, lattice.counts_for, vector)
                weights, modulus = bar
                self.assertIsInstance(bar, tuple)
                self.assertIsInstance(weights, tuple)
                self.assertEqual(len(weights), width)
                self.assertGreaterEqual(modulus, 2)
                self.assertTrue(all(times(weights, given) % modulus == 0 for given in vectors))
                self.assertNotEqual(times(weights, vector) % modulus, 0)
                self.assertEqual(lattice.bar(vector=tuple(vector)), bar)

    def test_wrong_vectors(self):
        lattice = Lattice(2, (2, 4), (3, 1))
        for value in [(1, 2, 3), (1, True), (None, 1), [1], "12", {0: 0, 1: 1}] + any_values():
            for method in (lattice.counts_for, lattice.bar):
                with self.assertRaises(BadRow) as caught:
                    method(value)
                self.assertEqual(caught.exception.at, 0)

    def test_short_counts(self):
        # relations between the vectors are used to find small counts
        lattice = Lattice(1, (6,), (10,), (15,), (1001,), (997,))
        self.assertLessEqual(max(abs(count) for count in lattice.counts_for((1,))), 4)

    def test_shortened(self):
        rng = random.Random(4)
        for width, many in [(3, 2), (5, 4), (8, 8)]:
            vectors = some_vectors(rng, width, many, 1000)
            rows, _ = shortened(vectors)
            self.assertEqual(Lattice(width, *rows), Lattice(width, *vectors))
            self.assertLessEqual(sum(times(row, row) for row in rows), sum(times(row, row) for row in vectors))
        self.assertEqual(shortened([]), ([], []))

    def test_hidden_short_rows(self):
        rng = random.Random(7)
        for many in (2, 4, 7):
            short = [[rng.randint(-1, 1) for _ in range(many)] + [9 if at == own else 0 for at in range(many)]
                     for own in range(many)]
            rows = [list(row) for row in Lattice(2 * many, *short).staircase()]
            found, _ = shortened(rows)
            self.assertEqual(Lattice(2 * many, *found), Lattice(2 * many, *short))
            self.assertLessEqual(max(times(row, row) for row in found), 4 * (81 + many))
            counts = [rng.randint(-500, 500) for _ in range(2 * many)]
            self.assertLessEqual(times(short_beside(counts, rows), short_beside(counts, rows)), times(counts, counts))

    def test_traced(self):
        rng = random.Random(5)
        for width, many in [(2, 5), (4, 4), (3, 9)]:
            vectors = some_vectors(rng, width, many, 9)
            stairs, relations = traced_stairs(vectors, width)
            self.assertEqual([tuple(row[:width]) for row in stairs], Lattice(width, *vectors).staircase())
            for row in stairs:
                self.assertEqual(summed(row[width:], vectors, width), row[:width])
            self.assertEqual(len(stairs) + len(relations), many)
            for row in relations:
                self.assertEqual(summed(row, vectors, width), [0] * width)
            needed = needed_ones(vectors)
            self.assertEqual(Lattice(width, *[vectors[at] for at in needed]), Lattice(width, *vectors))


class ToldTest(unittest.TestCase):
    def test_told(self):
        lattice = Lattice(3, (2, 0, 0), (0, 0, 1))
        self.assertEqual((lattice.width, len(lattice), repr(lattice)), (3, 2, "Lattice(2 of 3)"))
        empty = Lattice(width=24)
        self.assertEqual((empty.width, len(empty), repr(empty), empty.staircase()), (24, 0, "Lattice(0 of 24)", []))
        self.assertTrue(empty)
        self.assertTrue(lattice)
        self.assertEqual((empty.spare(), empty.counts_for([0] * 24)), ([], ()))

    def test_copies(self):
        vector = [2, 4]
        lattice = Lattice(2, vector, (3, 1))
        vector[0] = 1
        lattice.staircase().append(1)
        lattice.spare().append(1)
        self.assertEqual(lattice, Lattice(2, (2, 4), (3, 1)))
        self.assertEqual((lattice.staircase(), lattice.spare()), ([(1, 7), (0, 10)], []))
        self.assertEqual(lattice.counts_for((2, 4)), (1, 0))

    def test_spare(self):
        rng = random.Random(6)
        for width, vectors in some_lattices(rng):
            spare = Lattice(width, *vectors).spare()
            for at, vector in enumerate(vectors):
                self.assertEqual(at in spare, vector in Lattice(width, *vectors[:at], *vectors[at + 1:]))
            self.assertEqual(spare, sorted(spare))
        self.assertEqual(Lattice(1, (6,), (10,), (15,)).spare(), [])
        self.assertEqual(Lattice(1, (6,), (10,), (2,)).spare(), [0, 1, 2])
        self.assertEqual(Lattice(1, (6,), (12,)).spare(), [1])
        self.assertEqual(Lattice(1, (6,), (6,)).spare(), [0, 1])
        self.assertEqual(Lattice(1, (0,)).spare(), [0])

    def test_wrong(self):
        for value in [0, -1, 25, 1000, True, False, 2.0] + [value for value in any_values() if value != 1 or value is True]:
            with self.assertRaises(BadNumber) as caught:
                Lattice(value, (1,), None)
            self.assertIs(caught.exception.value, value)
        for value in [[1, 2, 3], (1,), (1, True), [1, None], "12", None, {0: 1, 1: 2}] + any_values():
            for ahead in (0, 2):
                with self.assertRaises(BadRow) as caught:
                    Lattice(2, *[(1, 2)] * ahead, value, None)
                self.assertEqual(caught.exception.at, ahead)


if __name__ == "__main__":
    unittest.main()
