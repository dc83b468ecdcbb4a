"""Turned pairs of rows, and two sums of their powers."""

from turnsleft.ratios import PRIMES, order_of
from turnsleft.wedges import wedge_of_products


def _ranks_of(ratios):
    """For each ratio of a list, how many of the others stand ahead of it by value."""
    ranks = [0] * len(ratios)
    for rank, at in enumerate(order_of(ratios)):
        ranks[at] = rank
    return ranks


def turned_pairs(rows):
    """The pairs of indexes of rows of which the first one starts below the other one, and its image above."""
    homes = _ranks_of([row[0] for row in rows])
    images = _ranks_of([row[0] * row[2] for row in rows])
    for one in range(len(rows)):
        for other in range(len(rows)):
            if homes[one] < homes[other] and images[one] > images[other]:
                yield (one, other)


def _added(one, other):
    """The sum of two vectors."""
    return [own + item for own, item in zip(one, other)]


def _sums_above(ranks, vectors):
    """For each vector, the sum of the earlier ones with a greater rank.

    The sums are kept for groups of neighbouring ranks, so that a sum needs few groups and not all vectors.
    """
    many = len(ranks)
    groups = [[0, 0, 0, 0, 0, 0] for _ in range(many + 1)]
    sums = []
    for rank, vector in zip(ranks, vectors):
        total = [0, 0, 0, 0, 0, 0]
        at = many - 1 - rank
        while at > 0:
            total = _added(total, groups[at])
            at = at & (at - 1)
        sums.append(total)
        at = many - rank
        while at <= many:
            groups[at] = _added(groups[at], vector)
            at = at + (at & -at)
    return sums


def _products(pairs):
    """The six lists of six sums of the items of the first vectors times those of the second ones."""
    products = [[0, 0, 0, 0, 0, 0] for _ in PRIMES]
    for first, second in pairs:
        products = [[own + one * two for own, two in zip(row, second)] for row, one in zip(products, first)]
    return products


def pair_sum(rows):
    """The sum of the wedges of the lengths of all turned pairs, the lower one first."""
    order = order_of([row[0] for row in rows])
    images = _ranks_of([row[0] * row[2] for row in rows])
    vectors = [rows[at][1].powers() for at in order]
    lower = _sums_above([images[at] for at in order], vectors)
    return wedge_of_products(_products(list(zip(lower, vectors))))


def straight_matrix(rows):
    """The six lists of six sums over the rows, of a power of the length times a power of the factor."""
    return _products([(length.powers(), factor.powers()) for _, length, factor in rows])
