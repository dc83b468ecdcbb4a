"""Lattices: all sums of whole multiples of some vectors, their staircases, and bars against other vectors."""

from math import gcd

from turnsleft.errors import BadNumber, BadRow, NotIn
from turnsleft.keys import dot
from turnsleft.relations import shared_by
from turnsleft.shortening import short_beside
from turnsleft.stairs import counts_on, lead_of, less, needed_ones, staircase_of, traced_stairs
from turnsleft.words import are_numbers, is_number

MOST_WIDTH = 24
# of more vectors only those are counted that are needed, and with greater numbers counts stay as they are found
MANY = 32
GREAT = 1000000000000


class Lattice:
    """A lattice of a width, with the vectors that it was told by."""

    def __init__(self, width, *vectors):
        if not is_number(width) or not 1 <= width <= MOST_WIDTH:
            raise BadNumber(width)
        for at, vector in enumerate(vectors):
            if not are_numbers(vector, width):
                raise BadRow(at)
        self.width = width
        self._vectors = [list(vector) for vector in vectors]
        self._stairs = staircase_of(self._vectors)

    def staircase(self):
        """The vectors of the staircase."""
        return [tuple(row) for row in self._stairs]

    def counts_for(self, vector):
        """How often each given vector goes into a sum that is a vector."""
        if not are_numbers(vector, self.width):
            raise BadRow(0)
        if counts_on(self._stairs, vector) is None:
            raise NotIn()
        needed = list(range(len(self._vectors)))
        if len(needed) > MANY:
            needed = needed_ones(self._vectors)
        found = _counts_of([self._vectors[at] for at in needed], vector)
        counts = [0] * len(self._vectors)
        for at, count in zip(needed, found):
            counts[at] = count
        return tuple(counts)

    def bar(self, vector):
        """A pair (weights, modulus) that bars a vector, None if the vector is in the lattice."""
        if not are_numbers(vector, self.width):
            raise BadRow(0)
        left = list(vector)
        for at, row in enumerate(self._stairs):
            lead = lead_of(row)
            ahead = lead_of(left[:lead])
            if ahead is not None:
                return _bar_at(self._stairs[:at], self.width, ahead, _no_divisor(left[ahead]))
            if left[lead] % row[lead] != 0:
                return _bar_at(self._stairs[:at], self.width, lead, row[lead])
            left = less(left, left[lead] // row[lead], row)
        ahead = lead_of(left)
        return None if ahead is None else _bar_at(self._stairs, self.width, ahead, _no_divisor(left[ahead]))

    def spare(self):
        """The indexes of the given vectors that are in the lattice of the other ones."""
        needed = needed_ones(self._vectors)
        spare = []
        for at, vector in enumerate(self._vectors):
            if at in needed:
                others = self._vectors[:at] + self._vectors[at + 1:]
                if counts_on(staircase_of(others), vector) is None:
                    continue
            spare.append(at)
        return spare

    def __contains__(self, vector):
        return are_numbers(vector, self.width) and counts_on(self._stairs, vector) is not None

    def __eq__(self, other):
        return isinstance(other, Lattice) and self.width == other.width and self._stairs == other._stairs

    def __len__(self):
        return len(self._stairs)

    def __bool__(self):
        # the lattice of 0 alone is a lattice, too
        return True

    def __repr__(self):
        return f"Lattice({len(self._stairs)} of {self.width})"


def _no_divisor(number):
    """The least number from 2 on that does not divide a number, which is not 0."""
    divisor = 2
    while number % divisor == 0:
        divisor += 1
    return divisor


def _bar_at(stairs, width, lead, modulus):
    """The bar that has one part of a modulus at an index, and 0 behind it and on all vectors of a staircase."""
    weights = [0] * width
    weights[lead] = 1
    for row in stairs[::-1]:
        own = lead_of(row)
        value = dot(weights, row)
        times = row[own] // gcd(row[own], value)
        weights = [times * weight for weight in weights]
        modulus = times * modulus
        weights[own] = -(times * value) // row[own]
    shared = shared_by([modulus, *weights])
    modulus = modulus // shared
    return tuple([weight // shared % modulus for weight in weights]), modulus


def _counts_of(vectors, vector):
    """Counts of vectors in a sum of them that is a vector; short ones, where the numbers are not too great."""
    width = len(vector)
    stairs, relations = traced_stairs(vectors, width)
    counts = [0] * len(vectors)
    for row, times in zip(stairs, counts_on([row[:width] for row in stairs], vector)):
        counts = less(counts, -times, row[width:])
    greatest = max([abs(item) for own in vectors for item in own], default=0)
    return short_beside(counts, relations) if greatest < GREAT else counts
