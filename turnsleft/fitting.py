"""Readings that fit samples, or counts that show that none does."""

from turnsleft.errors import BadNumber, Unfit
from turnsleft.lattices import Lattice
from turnsleft.ratios import PRIMES
from turnsleft.readings import Reading
from turnsleft.wedges import PAIRS
from turnsleft.words import is_number


def _row_of(wedge, value, modulus):
    """What a wedge gives for each weight, and behind it the value."""
    if modulus % 2 == 1:
        return [*wedge.pairs(), value]
    return [*wedge.pairs(), *[modulus // 2 * bit for bit in wedge.bits()], value]


def fitted(samples, *, modulus):
    """A reading with a modulus that has the values of samples."""
    if not is_number(modulus) or modulus < 2:
        raise BadNumber(modulus)
    rows = [_row_of(wedge, value, modulus) for wedge, value in samples]
    many = len(PAIRS) if modulus % 2 == 1 else len(PAIRS) + len(PRIMES)
    for at in range(many + 1):
        rows.append([modulus if at == other else 0 for other in range(many + 1)])
    lattice = Lattice(many + 1, *rows)
    # the last vector says which values sums of samples have that no weights can tell from nothing
    last = lattice.staircase()[-1]
    if last[many] != modulus:
        raise Unfit(lattice.counts_for(last)[:len(samples)])
    weights, whole = lattice.bar([0] * many + [1])
    found = [-weight * modulus // whole % modulus for weight in weights]
    bits = [weight % 2 for weight in found[len(PAIRS):many]]
    return Reading(found[:len(PAIRS)], bits=bits or [0] * len(PRIMES), modulus=modulus)
