"""Determinants, ranks and minors of matrices of whole numbers."""

from itertools import combinations
from math import gcd


def _filled_from(rows, first, column):
    """The index of the first row, from one on, whose item in a column is not 0; None without one."""
    for at in range(first, len(rows)):
        if rows[at][column] != 0:
            return at
    return None


def _cleared(matrix):
    """The rank of a matrix, and the determinant of the rows and columns that tell it."""
    rows = [list(row) for row in matrix]
    width = len(rows[0]) if rows else 0
    rank = 0
    sign = 1
    last = 1
    for column in range(width):
        found = _filled_from(rows, rank, column)
        if found is None:
            continue
        if found != rank:
            rows[rank], rows[found] = rows[found], rows[rank]
            sign = -sign
        head = rows[rank]
        for at in range(rank + 1, len(rows)):
            item = rows[at][column]
            # each new item is a minor of the matrix times the last pivot, so the division leaves nothing
            rows[at] = [(head[column] * own - item * top) // last for own, top in zip(rows[at], head)]
        last = head[column]
        rank += 1
    return rank, sign * last


def determinant(matrix):
    """The determinant of a square matrix, 1 for the empty one."""
    rank, value = _cleared(matrix)
    return value if rank == len(matrix) else 0


def rank_of(matrix):
    """The rank of a matrix over fractions, 0 for the empty one."""
    rank, _ = _cleared(matrix)
    return rank


def common_minor(matrix):
    """The greatest common divisor of the determinants of as many columns as there are rows."""
    width = len(matrix[0]) if matrix else 0
    shared = 0
    for columns in combinations(range(width), len(matrix)):
        shared = gcd(shared, determinant([[row[column] for column in columns] for row in matrix]))
    return shared
