"""Promise 6: determinants, ranks and common minors."""

import random
import unittest
from fractions import Fraction
from itertools import combinations, permutations
from math import gcd

from turnsleft.matrices import common_minor, determinant, rank_of


def by_permutations(matrix):
    """The determinant, by its definition."""
    total = 0
    for order in permutations(range(len(matrix))):
        product = 1
        for row, column in enumerate(order):
            product *= matrix[row][column]
        turned = sum(1 for one, two in combinations(order, 2) if one > two)
        total += -product if turned % 2 else product
    return total


def by_fractions(matrix):
    """The rank, by elimination over fractions."""
    rows = [[Fraction(item) for item in row] for row in matrix]
    rank = 0
    for column in range(len(rows[0]) if rows else 0):
        found = [at for at in range(rank, len(rows)) if rows[at][column]]
        if not found:
            continue
        rows[rank], rows[found[0]] = rows[found[0]], rows[rank]
        for at in range(len(rows)):
            if at != rank:
                times = rows[at][column] / rows[rank][column]
                rows[at] = [own - times * item for own, item in zip(rows[at], rows[rank])]
        rank += 1
    return rank


def some_matrix(rng, height, width, most):
    """A matrix with small numbers, often of a lower rank."""
    matrix = [[rng.randint(-most, most) for _ in range(width)] for _ in range(height)]
    if height > 1 and rng.random() < 0.4:
        one, two = rng.sample(range(height), 2)
        matrix[one] = [rng.randint(-2, 2) * item for item in matrix[two]]
    return matrix


class MatricesTest(unittest.TestCase):
    def test_empty(self):
        self.assertEqual(determinant([]), 1)
        self.assertEqual(rank_of([]), 0)
        self.assertEqual(common_minor([]), 1)

    def test_small(self):
        self.assertEqual(determinant([[0, 1], [1, 0]]), -1)
        self.assertEqual(determinant([[2, 4], [1, 2]]), 0)
        self.assertEqual(determinant(((5,),)), 5)
        self.assertEqual(rank_of([[0, 0], [0, 0]]), 0)
        self.assertEqual(rank_of([[1, 2], [2, 4], [3, 6]]), 1)
        self.assertEqual(common_minor([[2, 4]]), 2)
        self.assertEqual(common_minor([[0, 0]]), 0)
        self.assertEqual(common_minor([[1, 0], [0, 1], [1, 1]]), 0)
        self.assertEqual(common_minor([[-3]]), 3)

    def test_by_definition(self):
        rng = random.Random(1)
        for _ in range(150):
            size = rng.randint(0, 5)
            matrix = some_matrix(rng, size, size, 4)
            self.assertEqual(determinant(matrix), by_permutations(matrix))
            height = rng.randint(0, 7)
            matrix = some_matrix(rng, height, rng.randint(0, 7), 3)
            self.assertEqual(rank_of(matrix), by_fractions(matrix))
            height = rng.randint(1, 6)
            width = rng.randint(1, 6)
            matrix = some_matrix(rng, height, width, 5)
            shared = 0
            for columns in combinations(range(width), height):
                shared = gcd(shared, by_permutations([[row[column] for column in columns] for row in matrix]))
            self.assertEqual(common_minor(matrix), shared)

    def test_eight_rows_and_great_numbers(self):
        big = 10**200
        matrix = [[big if row == column else 0 for column in range(8)] for row in range(8)]
        self.assertEqual(determinant(matrix), big**8)
        matrix[0], matrix[7] = matrix[7], matrix[0]
        self.assertEqual(determinant(matrix), -(big**8))
        rng = random.Random(2)
        matrix = [[rng.randint(-big, big) for _ in range(8)] for _ in range(8)]
        doubled = [[2 * item for item in row] for row in matrix]
        self.assertEqual(determinant(doubled), 2**8 * determinant(matrix))
        self.assertEqual(rank_of(matrix), 8)
        self.assertEqual(rank_of(matrix + [[one + two for one, two in zip(matrix[0], matrix[3])]]), 8)
        self.assertEqual(rank_of([matrix[0]] * 400), 1)

    def test_arguments_stay(self):
        matrix = [[0, 2, 3], [4, 5, 6], [7, 8, 10]]
        copy = [list(row) for row in matrix]
        determinant(matrix)
        rank_of(matrix)
        common_minor(matrix)
        self.assertEqual(matrix, copy)


if __name__ == "__main__":
    unittest.main()
