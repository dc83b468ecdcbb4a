"""Paired courses: courses in which each length occurs an even number of times."""

from turnsleft.atoms import atom_counts
from turnsleft.courses import course_with
from turnsleft.errors import Odd
from turnsleft.making import check_fair, course_for
from turnsleft.moves import swap_with
from turnsleft.ratios import PRIMES, Ratio, multiplied, ratio_with


def _single_ones(swaps):
    """The ascending indexes of one swap of each length that occurs an odd number of times."""
    single = {}
    for at, swap in enumerate(swaps):
        tone = swap.length.as_tone()
        if tone in single:
            del single[tone]
        else:
            single[tone] = at
    return sorted(single.values())


def _match(single, parts, many, at):
    """Lay a part aside until another one with as many letters comes."""
    if many in single:
        parts[single[many]].append(many)
        parts[at].append(many)
        del single[many]
    else:
        single[many] = at


def _even_parts(runs):
    """Parts of runs of one letter, of which each number of letters occurs an even number of times.

    The runs are a list of numbers, whose sum is even; the parts are given as a list for each run.
    """
    parts = [[] for _ in runs]
    single = {}
    for at, many in enumerate(runs):
        if many > 0:
            _match(single, parts, many, at)
    while len(single) > 1:
        low, high = sorted(single)[-2:]
        at = single.pop(high)
        parts[at].append(low)
        parts[single.pop(low)].append(low)
        _match(single, parts, high - low, at)
    for many in single:
        parts[single[many]].extend([many // 2, many // 2])
    return parts


def _cut_swap(swap, lengths):
    """The swaps of parts with lengths that follow one another, which together are a swap."""
    swaps = []
    done = Ratio(1)
    for length in lengths:
        swaps.append(swap_with(swap.first * done, swap.second * done, length))
        done = done * length
    return swaps


def _paired(swaps):
    """Swaps whose product is a square, some of them cut so that each length occurs an even number of times."""
    single = _single_ones(swaps)
    product = multiplied([swaps[at].length for at in single])
    half = ratio_with([power // 2 for power in product.powers()])
    lengths = [swaps[at].length for at in single]
    # the atoms of the half make sure that the whole has each atom an even number of times
    atoms, counts = atom_counts(lengths + [half] if lengths else [])
    cut = {at: [] for at in single}
    for letter, atom in enumerate(atoms):
        parts = _even_parts([row[letter] for row in counts[:-1]])
        for at, numbers in zip(single, parts):
            cut[at].extend([atom.power(many) for many in numbers])
    paired = []
    for at, swap in enumerate(swaps):
        paired.extend(_cut_swap(swap, cut[at]) if at in cut else [swap])
    return paired


def paired_course(exchange):
    """A paired course that makes an exchange."""
    wedge = exchange.wedge
    check_fair(wedge)
    for prime, bit in zip(PRIMES, wedge.bits()):
        if bit == 1:
            raise Odd(prime)
    course = course_for(exchange)
    return course_with(course.top, _paired(course.swaps()), course.room)
