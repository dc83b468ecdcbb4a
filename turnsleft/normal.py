"""Normal sums, divisors and anchors of wedges, and pairs of lengths for the turns that a wedge owes."""

from itertools import combinations
from math import isqrt

from turnsleft.keys import dot
from turnsleft.logs import log_of
from turnsleft.matrices import determinant
from turnsleft.ratios import PRIMES, Ratio, ratio_with
from turnsleft.slimming import slimmed
from turnsleft.splitting import split_sum
from turnsleft.wedges import square_at

MOST_DIVISOR = 1000


def as_lengths(u, v):
    """Two lengths with the same wedge as two ratios, but for its bits."""
    unit = Ratio(1)
    if u.below(unit) and v.below(unit):
        return unit // u, unit // v
    if u.below(unit):
        return v, unit // u
    return (unit // v, u) if v.below(unit) else (u, v)


def normal_sum(wedge):
    """A normal sum of a wedge: tuples (d, u, v)."""
    lengths = []
    for number, u, v in slimmed(split_sum(wedge.matrix())):
        first, second = as_lengths(ratio_with(u), ratio_with(v))
        lengths.append((number, first, second))
    return lengths


def divisors(wedge):
    """The numbers d of each normal sum."""
    return [number for number, _, _ in split_sum(wedge.matrix())]


def _first_anchor(wedge, many):
    """The least tuple of so many ascending primes at which the determinant is not 0."""
    for places in combinations(range(len(PRIMES)), many):
        primes = [PRIMES[place] for place in places]
        if determinant(square_at(wedge, primes)) != 0:
            return tuple(primes)
    return None


def anchor_of(wedge):
    """The least anchor of a wedge."""
    return _first_anchor(wedge, wedge.rank)


def _parted(number):
    """Two numbers with a product, of which the lesser one is as great as is sought."""
    lesser = 1
    for divisor in range(1, MOST_DIVISOR + 1):
        if divisor * divisor <= number and number % divisor == 0:
            lesser = divisor
    return lesser, number // lesser


def _single_sum(items):
    """A sum with the same value, in which all numbers are 1 and the vectors are short."""
    single = []
    for number, u, v in items:
        lesser, greater = _parted(number)
        single.append((1, [lesser * item for item in u], [greater * item for item in v]))
    return slimmed(single)


def _single_sums(numbers):
    """Some sums with numbers 1 and short vectors, half as many as the rank, from the matrix of a wedge.

    If the rank is as great as it can be, the last number of a normal sum is great. But if one of the primes,
    with all its numbers, is one of the pairs, those of the other pairs are not.
    """
    items = split_sum(numbers)
    if 2 * len(items) < len(numbers):
        return [_single_sum(items)]
    order = range(len(numbers))
    sums = []
    for prime in order:
        own = (1, [1 if at == prime else 0 for at in order], numbers[prime])
        left = [[0 if prime in (p, q) else numbers[p][q] for q in order] for p in order]
        sums.append(_single_sum([own, *split_sum(left)]))
    return sums


def reach_of(u, v):
    """How great the powers of two ratios grow that have the wedge of two vectors, the nearer to 1 the more."""
    one = log_of(u)
    other = log_of(v)
    grown = [one * item - other * own for own, item in zip(u, v)]
    return isqrt(dot(grown, grown))


def _whole_reach(items):
    """The sum of what the pairs of vectors of a sum reach."""
    return sum([reach_of(u, v) for _, u, v in items])


def turned_vectors(numbers):
    """Pairs of short vectors, half as many as the rank, whose wedges have the sum of a matrix of a wedge."""
    sums = _single_sums(numbers)
    best = sums[0]
    for items in sums:
        if _whole_reach(items) < _whole_reach(best):
            best = items
    return [(u, v) for _, u, v in best]
