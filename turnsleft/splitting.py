"""Tables split into sums of numbers times wedges of two short vectors, with the greatest number first.

A table is written in a base of the vectors that it is made of. The greatest number is that of its Pfaffian and
of the Pfaffians without two vectors each; which two vectors are split off with it is told by one equation. So
they can be chosen short, and the table that is left is made of fewer vectors.
"""

from turnsleft.keys import dot
from turnsleft.relations import shared_by
from turnsleft.shortening import short_beside, shortened
from turnsleft.stairs import traced_stairs
from turnsleft.wedges import pfaffian_of


def _turned(rows, width):
    """The columns of rows of a width, as rows."""
    return [[row[at] for row in rows] for at in range(width)]


def _own_base(numbers):
    """A short base of all whole vectors that are sums of fractions of the rows of a table."""
    many = len(numbers)
    _, outside = traced_stairs(numbers, many)
    _, base = traced_stairs(_turned(outside, many), len(outside))
    short, _ = shortened(base)
    return short


def _written(numbers, base):
    """The numbers of a table for the pairs of a base."""
    readers, _ = traced_stairs(_turned(base, len(numbers)), len(base))
    parts = [reader[len(base):] for reader in readers]
    return [[dot(one, [dot(row, other) for row in numbers]) for other in parts] for one in parts]


def _without_two(square):
    """For each two rows the Pfaffian of the other ones, with the sign that it has in the whole one."""
    many = len(square)
    found = [[0] * many for _ in square]
    for one in range(many):
        for other in range(one + 1, many):
            left = [at for at in range(many) if at not in (one, other)]
            value = pfaffian_of(square, left) * (1 if (one + other) % 2 == 1 else -1)
            found[one][other] = value
            found[other][one] = -value
    return found


def _sum_of(counts, vectors):
    """The sum of so many times each vector."""
    return [dot(counts, column) for column in _turned(vectors, len(vectors[0]))]


def _units(many):
    """The lists of so many counts with a single 1."""
    return [[1 if at == own else 0 for at in range(many)] for own in range(many)]


def _small_counts(many, most):
    """The lists of so many counts, each of them not below -most and not above it."""
    counts = [[]]
    for _ in range(many):
        counts = [[*row, item] for row in counts for item in range(-most, most + 1)]
    return counts


def _partner(values, wished, base):
    """The shortest vector that is found with the sum of its counts in a base times values; None without one."""
    stairs, relations = traced_stairs([[value] for value in values], 1)
    if not stairs or stairs[0][0] != abs(wished):
        return None
    sign = 1 if wished > 0 else -1
    own = [sign * count for count in stairs[0][1:]]
    return short_beside(_sum_of(own, base), [_sum_of(row, base) for row in relations])


def _shortest_pair(tries, others, wished, base):
    """The two shortest vectors (u, v) of which u has counts that are tried; None without any."""
    best = None
    size = 0
    for counts in tries:
        u = _sum_of(counts, base)
        v = _partner(_sum_of(counts, others), wished, base)
        if v is not None and (best is None or dot(u, u) * dot(v, v) < size):
            best = (u, v)
            size = dot(u, u) * dot(v, v)
    return best


def _first_pair(square, base):
    """The greatest number of a table, written in a base, and two short vectors that are split off with it."""
    whole = pfaffian_of(square, list(range(len(square))))
    others = _without_two(square)
    shared = shared_by([number for row in others for number in row])
    wished = shared if whole > 0 else -shared
    best = _shortest_pair(_units(len(base)), others, wished, base)
    most = 1
    while best is None:
        for counts in _small_counts(len(base), most):
            best = _shortest_pair([counts], others, wished, base) if best is None else best
        most += 1
    return abs(whole) // shared, best[0], best[1]


def split_sum(numbers):
    """A normal sum with short vectors, from the matrix of a wedge."""
    items = []
    while any([any(row) for row in numbers]):
        base = _own_base(numbers)
        number, u, v = _first_pair(_written(numbers, base), base)
        items.append((number, u, v))
        numbers = [
            [item - number * (one * two - other * own) for item, other, two in zip(row, u, v)]
            for row, one, own in zip(numbers, u, v)
        ]
    return items[::-1]
