"""Normal sums, divisors and anchors of wedges."""

from itertools import combinations
from math import isqrt

from turnsleft.keys import LOGS, dot
from turnsleft.matrices import determinant
from turnsleft.ratios import PRIMES, Ratio, ratio_with
from turnsleft.slimming import shortest, slimmed
from turnsleft.stairs import nearest
from turnsleft.wedges import square_at

MOST_DIVISOR = 1000


class Base:
    """A base of all vectors, and the numbers of the sum of wedges of two of them."""

    def __init__(self, numbers):
        self.numbers = [list(row) for row in numbers]
        self.vectors = [[1 if one == other else 0 for other in range(len(numbers))] for one in range(len(numbers))]

    def change(self, one, other, times):
        """Add so many times the vector other to the vector one; the sum stays."""
        self.vectors[one] = [own + times * item for own, item in zip(self.vectors[one], self.vectors[other])]
        for row in self.numbers:
            row[other] = row[other] - times * row[one]
        behind = [item - times * own for item, own in zip(self.numbers[other], self.numbers[one])]
        self.numbers[other] = behind

    def least(self, left):
        """The number nearest to 0, without its sign, with its pair; None if all numbers left are 0."""
        found = None
        for one in left:
            for other in left:
                size = abs(self.numbers[one][other])
                if one < other and size > 0 and (found is None or size < found[0]):
                    found = (size, one, other)
        return found

    def free(self, one, other, left):
        """Take multiples of the number of a pair from its numbers with all vectors left; whether none remain."""
        clear = True
        for third in left:
            if third not in (one, other):
                self.change(other, third, nearest(self.numbers[one][third], self.numbers[one][other]))
                self.change(one, third, nearest(self.numbers[other][third], self.numbers[other][one]))
                clear = clear and self.numbers[one][third] == 0 and self.numbers[other][third] == 0
        return clear

    def mix(self, one, size, left):
        """Add the vector one to a vector that has a number which size does not divide; whether there is one."""
        for third in left:
            if any([self.numbers[third][fourth] % size != 0 for fourth in left]):
                self.change(third, one, 1)
                return True
        return False


def plain_sum(numbers, left):
    """A normal sum with vectors, from the matrix of a wedge; where several are right, the order left decides."""
    base = Base(numbers)
    items = []
    found = base.least(left)
    while found is not None:
        size, one, other = found
        if base.free(one, other, left) and not base.mix(one, size, left):
            if base.numbers[one][other] < 0:
                one, other = other, one
            items.append((size, base.vectors[one], base.vectors[other]))
            left = [at for at in left if at not in (one, other)]
        found = base.least(left)
    return items


def _orders():
    """Some orders of the primes, all of them unlike one another."""
    orders = []
    for step in range(1, len(PRIMES) + 1):
        order = [step * at % (len(PRIMES) + 1) - 1 for at in range(1, len(PRIMES) + 1)]
        orders.extend([order[at:] + order[:at] for at in range(len(PRIMES))])
    return orders


def vector_sum(numbers):
    """A normal sum with short vectors, from the matrix of a wedge."""
    return shortest([slimmed(plain_sum(numbers, order)) for order in _orders()])


def _parted(number):
    """Two numbers with a product, of which the lesser one is as great as is sought."""
    lesser = 1
    for divisor in range(1, MOST_DIVISOR + 1):
        if divisor * divisor <= number and number % divisor == 0:
            lesser = divisor
    return lesser, number // lesser


def _single_sum(items):
    """A sum with the same value, in which all numbers are 1 and the vectors are short."""
    single = []
    for number, u, v in items:
        lesser, greater = _parted(number)
        single.append((1, [lesser * item for item in u], [greater * item for item in v]))
    return slimmed(single)


def reach_of(u, v):
    """How great the powers of two ratios grow that have the wedge of two vectors, the nearer to 1 the more."""
    one = dot(u, LOGS)
    other = dot(v, LOGS)
    grown = [one * item - other * own for own, item in zip(u, v)]
    return isqrt(dot(grown, grown))


def _whole_reach(items):
    """The sum of what the pairs of vectors of a sum reach."""
    return sum([reach_of(u, v) for _, u, v in items])


def _single_sums(numbers):
    """Some sums with numbers 1 and short vectors, half as many as the rank, from the matrix of a wedge.

    If the rank is as great as it can be, the last number of a normal sum is great. But if one of the primes,
    with all its numbers, is one of the pairs, those of the other pairs are not.
    """
    order = list(range(len(numbers)))
    items = plain_sum(numbers, order)
    if 2 * len(items) < len(numbers):
        return [_single_sum(items)]
    sums = []
    for prime in order:
        own = (1, [1 if at == prime else 0 for at in order], numbers[prime])
        left = [[0 if prime in (p, q) else numbers[p][q] for q in order] for p in order]
        for at in order:
            sums.append(_single_sum([own, *plain_sum(left, order[at:] + order[:at])]))
    return sums


def turned_vectors(numbers):
    """Pairs of short vectors, half as many as the rank, whose wedges have the sum of a matrix of a wedge."""
    sums = _single_sums(numbers)
    best = sums[0]
    for items in sums:
        if _whole_reach(items) < _whole_reach(best):
            best = items
    return [(u, v) for _, u, v in best]


def as_lengths(u, v):
    """Two lengths with the same wedge as two ratios, but for its bits."""
    unit = Ratio(1)
    if u.below(unit) and v.below(unit):
        return unit // u, unit // v
    if u.below(unit):
        return v, unit // u
    return (unit // v, u) if v.below(unit) else (u, v)


def normal_sum(wedge):
    """A normal sum of a wedge: tuples (d, u, v)."""
    lengths = []
    for number, u, v in vector_sum(wedge.matrix()):
        first, second = as_lengths(ratio_with(u), ratio_with(v))
        lengths.append((number, first, second))
    return lengths


def divisors(wedge):
    """The numbers d of each normal sum."""
    return [number for number, _, _ in plain_sum(wedge.matrix(), list(range(len(PRIMES))))]


def _first_anchor(wedge, many):
    """The least tuple of so many ascending primes at which the determinant is not 0."""
    for places in combinations(range(len(PRIMES)), many):
        primes = [PRIMES[place] for place in places]
        if determinant(square_at(wedge, primes)) != 0:
            return tuple(primes)
    return None


def anchor_of(wedge):
    """The least anchor of a wedge."""
    return _first_anchor(wedge, wedge.rank)
