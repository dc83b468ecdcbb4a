"""Wedges: fifteen numbers, one for each pair of primes, and six bits."""

from math import gcd

from turnsleft.errors import BadWedge, NoPrime
from turnsleft.matrices import rank_of
from turnsleft.ratios import PRIMES
from turnsleft.words import are_bits, are_numbers, is_number

# the indexes of the primes of each pair, in ascending order
PAIRS = (
    (0, 1), (0, 2), (0, 3), (0, 4), (0, 5), (1, 2), (1, 3), (1, 4), (1, 5),
    (2, 3), (2, 4), (2, 5), (3, 4), (3, 5), (4, 5),
)


class Wedge:
    """The table of the fifteen numbers, and the six bits."""

    def __init__(self, pairs, bits=(0, 0, 0, 0, 0, 0)):
        if not are_numbers(pairs, len(PAIRS)) or not are_bits(bits, len(PRIMES)):
            raise BadWedge()
        self._pairs = tuple(pairs)
        self._bits = tuple(bits)

    def pairs(self):
        """The fifteen numbers."""
        return self._pairs

    def bits(self):
        """The six bits."""
        return self._bits

    def at(self, p, q):
        """The number of the table at two primes."""
        return self.matrix()[_place_of(p)][_place_of(q)]

    def matrix(self):
        """The list of the six lists of six numbers."""
        matrix = [[0, 0, 0, 0, 0, 0] for _ in PRIMES]
        for (p, q), number in zip(PAIRS, self._pairs):
            matrix[p][q] = number
            matrix[q][p] = -number
        return matrix

    @property
    def flat(self):
        """Whether all numbers are 0, whatever the bits are."""
        return not any(self._pairs)

    @property
    def rank(self):
        """The rank of the matrix over fractions."""
        return rank_of(self.matrix())

    @property
    def owed(self):
        """The number of turns that it owes."""
        return rank_of(self.matrix()) // 2

    @property
    def content(self):
        """The greatest common divisor of the numbers, 0 if it is flat."""
        shared = 0
        for number in self._pairs:
            shared = gcd(shared, number)
        return shared

    def text(self):
        """A word for each number that is not 0, and one for each bit that is 1."""
        words = [f"{PRIMES[p]}.{PRIMES[q]}={number}" for (p, q), number in zip(PAIRS, self._pairs) if number != 0]
        odd = [f"{prime}" for prime, bit in zip(PRIMES, self._bits) if bit == 1]
        return " ".join([*words, *odd]) if words or odd else "nothing"

    def __add__(self, other):
        pairs = [one + two for one, two in zip(self._pairs, other._pairs)]
        return Wedge(pairs, [(one + two) % 2 for one, two in zip(self._bits, other._bits)])

    def __sub__(self, other):
        pairs = [one - two for one, two in zip(self._pairs, other._pairs)]
        return Wedge(pairs, [(one + two) % 2 for one, two in zip(self._bits, other._bits)])

    def __neg__(self):
        return Wedge([-number for number in self._pairs], self._bits)

    def __mul__(self, k):
        return Wedge([k * number for number in self._pairs], [k * bit % 2 for bit in self._bits])

    def __rmul__(self, k):
        return Wedge([k * number for number in self._pairs], [k * bit % 2 for bit in self._bits])

    def __eq__(self, other):
        return isinstance(other, Wedge) and self._pairs == other._pairs and self._bits == other._bits

    def __bool__(self):
        return any(self._pairs) or any(self._bits)

    def __str__(self):
        return f"{self.text()}"

    def __repr__(self):
        return f"Wedge({self.text()})"


def _place_of(value):
    """The index of a prime."""
    if not is_number(value) or value not in PRIMES:
        raise NoPrime(value)
    return PRIMES.index(value)


def wedge_of_products(matrix):
    """The wedge of a sum of pairs, of which the products of their powers at p and q are added in a matrix."""
    pairs = [matrix[p][q] - matrix[q][p] for p, q in PAIRS]
    return Wedge(pairs, [matrix[p][p] % 2 for p in range(len(PRIMES))])


def wedge_of(u, v):
    """The wedge of two ratios."""
    return wedge_of_products([[one * two for two in v.powers()] for one in u.powers()])


def nothing():
    """The wedge with 0 everywhere."""
    return Wedge([0] * len(PAIRS))


def square_at(wedge, primes):
    """The matrix of a wedge with only the rows and columns of a list of primes."""
    places = [_place_of(prime) for prime in primes]
    matrix = wedge.matrix()
    return [[matrix[p][q] for q in places] for p in places]


def pfaffian_of(square, places):
    """The Pfaffian at the rows and columns with these indexes."""
    if not places:
        return 1
    if len(places) % 2 == 1:
        return 0
    total = 0
    sign = 1
    for at in range(1, len(places)):
        left = places[1:at] + places[at + 1:]
        total = total + sign * square[places[0]][places[at]] * pfaffian_of(square, left)
        sign = -sign
    return total


def pfaffian(wedge, primes):
    """The Pfaffian of a wedge at a list of different ascending primes."""
    return pfaffian_of(square_at(wedge, primes), list(range(len(primes))))
