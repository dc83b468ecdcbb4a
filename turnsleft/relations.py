"""Ratios that are bound or loose, roots, and parts of a base."""

from math import gcd

from turnsleft.matrices import common_minor
from turnsleft.ratios import PRIMES, ratio_with
from turnsleft.stairs import lead_of


def shared_by(numbers):
    """The greatest common divisor of some numbers."""
    shared = 0
    for number in numbers:
        shared = gcd(shared, number)
    return shared


def _without(vector, lead, row):
    """A whole multiple of a vector, made 0 at the lead of a row by a multiple of that row."""
    cleared = [row[lead] * own - vector[lead] * item for own, item in zip(vector, row)]
    shared = shared_by(cleared)
    return [item // shared for item in cleared]


def relation(ratios):
    """A relation of ratios, without a common divisor above 1; None if they are loose."""
    many = len(ratios)
    kept = []
    for at, ratio in enumerate(ratios):
        # behind the powers stands of which ratios, and how often each, the row is made
        vector = [*ratio.powers(), *[1 if at == other else 0 for other in range(many)]]
        for lead, row in kept:
            vector = _without(vector, lead, row)
        lead = lead_of(vector)
        if lead >= len(PRIMES):
            return tuple(vector[len(PRIMES):])
        kept.append((lead, vector))
    return None


def is_loose(ratios):
    """Whether ratios are loose."""
    return relation(ratios) is None


def root_of(ratio):
    """The pair (g, k) of the root of a ratio above 1 and the power of it that the ratio is."""
    k = shared_by(ratio.powers())
    return (ratio_with([power // k for power in ratio.powers()]), k)


def is_base_part(ratios):
    """Whether ratios are part of a base."""
    return common_minor([list(ratio.powers()) for ratio in ratios]) == 1
