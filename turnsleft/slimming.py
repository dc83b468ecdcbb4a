"""Sums of numbers times wedges of two vectors, changed so that the vectors are short and their sum stays.

A sum is a list of tuples (d, u, v), where each d divides the next one.
"""

from turnsleft.keys import dot
from turnsleft.stairs import less, nearest


def _sign_of(at):
    """1 for the first vector of a pair, -1 for the second one."""
    return 1 if at % 2 == 0 else -1


def _partner(at):
    """The index of the other vector of a pair."""
    return at + _sign_of(at)


def _turn_within(vectors, at):
    """Add a multiple of its partner to a vector, if this makes it shorter; whether it does."""
    other = vectors[_partner(at)]
    times = nearest(dot(vectors[at], other), dot(other, other))
    vectors[at] = less(vectors[at], times, other)
    return times != 0


def _turn_between(vectors, at, other, often):
    """Add multiples to vectors of two pairs, if this makes them shorter together; whether it does.

    The number of the pair of the vector other is so often that of the pair of at. What one addition adds to
    the sum, the other one takes away.
    """
    own = _partner(at)
    far = _partner(other)
    sign = _sign_of(at) * _sign_of(other)
    gain = often * dot(vectors[at], vectors[other]) - sign * dot(vectors[far], vectors[own])
    size = often * often * dot(vectors[other], vectors[other]) + dot(vectors[own], vectors[own])
    times = nearest(gain, size)
    vectors[at] = less(vectors[at], often * times, vectors[other])
    vectors[far] = less(vectors[far], -sign * times, vectors[own])
    return times != 0


def _round(vectors, numbers):
    """One round of additions between all vectors; whether some of them became shorter."""
    shorter = False
    for at in range(len(vectors)):
        shorter = _turn_within(vectors, at) or shorter
        for other in range(at - at % 2 + 2, len(vectors)):
            often = numbers[other // 2] // numbers[at // 2]
            shorter = _turn_between(vectors, at, other, often) or shorter
    return shorter


def slimmed(items):
    """A sum of the same value with the same numbers, whose vectors are short."""
    numbers = [number for number, _, _ in items]
    vectors = [list(vector) for _, u, v in items for vector in (u, v)]
    while _round(vectors, numbers):
        pass
    return [(number, vectors[2 * at], vectors[2 * at + 1]) for at, number in enumerate(numbers)]
