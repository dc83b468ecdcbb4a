"""The fold that, together with fair swaps, is an exchange."""

from turnsleft.errors import Unmade
from turnsleft.lattices import Lattice
from turnsleft.moves import led_back
from turnsleft.ratios import PRIMES, Ratio, ratio_with
from turnsleft.relations import root_of
from turnsleft.told import reading_of
from turnsleft.wedges import PAIRS, wedge_of


def fold_for(exchange):
    """The only ratio from 1 up to the root of the top by which the line is folded for an exchange."""
    top = exchange.top
    tables = [wedge_of(top, Ratio(prime)).pairs() for prime in PRIMES]
    lattice = Lattice(len(PAIRS), *tables)
    table = exchange.wedge.pairs()
    found = lattice.bar(table)
    if found is not None:
        raise Unmade(reading_of(found))
    root, _ = root_of(top)
    # a fold by the root has a flat wedge, so it may be taken away
    return led_back(ratio_with(lattice.counts_for(table)), root)
