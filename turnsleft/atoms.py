"""Atoms of a list of lengths, and the words that lengths are made of.

The lengths are written as products of parts, at first with exponents below 0, too. The parts are changed
step by step: one part is divided by another one, and the exponents follow. In this way the exponents below
0 come to an end. At last, parts are put together again where they only occur together.
"""

from turnsleft.keys import dot
from turnsleft.logs import log_of
from turnsleft.ratios import in_order, is_length, ratio_with
from turnsleft.relations import is_loose, shared_by
from turnsleft.stairs import counts_on, less, nearest, staircase_of

def _step(parts, counts, one, other, times):
    """Divide one part so many times by another one."""
    parts[one] = less(parts[one], times, parts[other])
    for row in counts:
        row[other] = row[other] + times * row[one]


def _shorten(parts, counts):
    """Divide parts by others as long as this makes their powers smaller."""
    going = True
    while going:
        going = False
        for one in range(len(parts)):
            for other in range(len(parts)):
                square = dot(parts[other], parts[other])
                times = 0 if one == other else nearest(dot(parts[one], parts[other]), square)
                if times != 0:
                    _step(parts, counts, one, other, times)
                    going = True


def _turn_up(parts, counts):
    """Turn each part below 1 into a length."""
    for at, part in enumerate(list(parts)):
        if not is_length(ratio_with(part)):
            parts[at] = [-power for power in part]
            for row in counts:
                row[at] = -row[at]


def _facing(counts, one, other):
    """The exponents of two parts, without signs, in the rows where one is above and the other below 0."""
    return [(abs(row[one]), abs(row[other])) for row in counts if row[one] * row[other] < 0]


def _best_step(parts, counts):
    """The division that takes most away from what stands below 0, with how many times it may be done."""
    ratios = [ratio_with(part) for part in parts]
    sizes = [max(1, log_of(part)) for part in parts]
    best = (0, 0, 0, 0)
    for one in range(len(parts)):
        for other in range(len(parts)):
            if not ratios[other].below(ratios[one]):
                continue
            facing = _facing(counts, one, other)
            gain = sizes[other] * sum([min(own, item) for own, item in facing])
            if gain > best[0]:
                times = min([item // own for own, item in facing])
                best = (gain, one, other, max(1, min(times, sizes[one] // sizes[other])))
    return best


def _grow(parts, counts):
    """Divide parts by smaller ones until no exponent is below 0.

    Each division takes something away from the product of what stands below 0, and adds nothing to it.
    """
    left = [row for row in counts if min(row) < 0]
    while left:
        _, one, other, times = _best_step(parts, left)
        if not is_length(ratio_with(less(parts[one], times, parts[other]))):
            times = 1
        _step(parts, counts, one, other, times)
        left = [row for row in left if min(row) < 0]


def _common_times(counts, one, other):
    """How often one part may take another one along, wherever it occurs."""
    return min([row[other] // row[one] for row in counts if row[one] > 0], default=0)


def _best_union(counts):
    """The two parts whose union makes words shortest, with how often one takes the other one along."""
    best = (0, 0, 0, 0)
    for one in range(len(counts[0])):
        often = sum([row[one] for row in counts])
        for other in range(len(counts[0])):
            times = 0 if one == other else _common_times(counts, one, other)
            if times * often > best[0]:
                best = (times * often, one, other, times)
    return best


def _gather(parts, counts):
    """Multiply parts by others, or by themselves, that they always occur with."""
    saved, one, other, times = _best_union(counts)
    while saved > 0:
        _step(parts, counts, one, other, -times)
        saved, one, other, times = _best_union(counts)
    for at, part in enumerate(list(parts)):
        shared = max(1, shared_by([row[at] for row in counts]))
        parts[at] = [shared * power for power in part]
        for row in counts:
            row[at] = row[at] // shared


def _taken_apart(lengths):
    """Atoms of different lengths, and for each length the list of the exponents of the atoms."""
    if is_loose(lengths):
        return lengths, [[1 if one == other else 0 for other in range(len(lengths))] for one in range(len(lengths))]
    vectors = [length.powers() for length in lengths]
    parts = staircase_of(vectors)
    counts = [counts_on(parts, vector) for vector in vectors]
    _shorten(parts, counts)
    _turn_up(parts, counts)
    _grow(parts, counts)
    _gather(parts, counts)
    used = [at for at in range(len(parts)) if any([row[at] for row in counts])]
    return [ratio_with(parts[at]) for at in used], [[row[at] for at in used] for row in counts]


def atom_counts(lengths):
    """The pair of a list of atoms of lengths, and for each length how often each atom goes into it."""
    different = in_order(lengths)
    atoms, counts = _taken_apart(different)
    rows = {}
    for length, row in zip(different, counts):
        rows[length.as_tone()] = row
    return atoms, [list(rows[length.as_tone()]) for length in lengths]


def _spelt(row):
    """The word that has each atom as often as a row says."""
    word = []
    for at, many in enumerate(row):
        word.extend([at] * many)
    return tuple(word)


def atoms_of(lengths):
    """The pair of a list of atoms of lengths, and a list with a word for each length."""
    atoms, counts = atom_counts(lengths)
    return atoms, [_spelt(row) for row in counts]


def cut_along(start, word, atoms):
    """The stretches that follow one another from a ratio on with the atoms of a word."""
    stretches = []
    for at in word:
        stretches.append((start, atoms[at]))
        start = start * atoms[at]
    return stretches
