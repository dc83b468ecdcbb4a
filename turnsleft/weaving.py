"""Words of letters woven into other words: by which equal parts that are exchanged.

A block is a pair (home, laid) of lists of rows in two orders. A row is a list that says how often each
letter goes into it; it is spelt with its letters in order. Behind the blocks stand banks, one for each block
and each pair of its letters; a bank is spelt like the block with these two letters alone, from its end to
its start. So whatever is turned in the block can be exchanged with the same thing in the bank. First the
letters of a block are sorted, then they are laid; what is left then is to be done within the banks, and for
each pair of letters this comes to nothing in all banks together.

A step is a tuple (one, ahead, other, place, size): the part of the segment one behind so many letters of each
sort is exchanged with the part of the segment other. Segments are the blocks, and the banks behind them.
"""

from itertools import combinations

from turnsleft.corners import groups_of, matched_corners


def pairs_among(many):
    """The pairs of letters."""
    return [pair for pair in combinations(range(many), 2)]


def totals_of(rows):
    """How often each letter goes into a list of rows, which is not empty."""
    return [sum([row[at] for row in rows]) for at in range(len(rows[0]))]


def _spread(many, pair, counts):
    """The list of counts of all letters that has two counts at a pair of letters and 0 elsewhere."""
    spread = [0] * many
    for letter, count in zip(pair, counts):
        spread[letter] = count
    return spread


def bank_totals(blocks, many):
    """How often each letter goes into the banks, block by block; without three letters there are none."""
    if many < 3:
        return []
    banks = []
    for home, _ in blocks:
        totals = totals_of(home)
        for low, high in pairs_among(many):
            used = totals[low] > 0 and totals[high] > 0
            banks.append(_spread(many, (low, high), (totals[low], totals[high]) if used else (0, 0)))
    return banks


def _bank_runs(rows, low, high):
    """The runs of a bank: the letters low and high of rows from the last one to the first one."""
    runs = []
    for row in rows[::-1]:
        runs.append((0, row[high]))
        runs.append((row[low], 0))
    return runs


def _sorted_steps(block, rows, banks):
    """The steps that sort a block that is spelt by rows, with the indexes of its banks."""
    many = len(rows[0])
    totals = totals_of(rows)
    letters = range(many)
    before = [0] * many
    steps = []
    for row in rows:
        for low in [letter for letter in letters if row[letter] > 0]:
            for high in [letter for letter in letters if letter > low and before[letter] > 0][::-1]:
                ahead = [before[at] + row[at] if at < low else before[at] if at < high else 0 for at in letters]
                place = (totals[low] - before[low] - row[low], totals[high] - before[high])
                size = _spread(many, (low, high), (row[low], before[high]))
                steps.append((block, ahead, banks[(low, high)], _spread(many, (low, high), place), size))
        before = [own + more for own, more in zip(before, row)]
    return steps


def _corner_steps(words, segments, many, low, high):
    """The steps that lead words of two letters, which stand in segments, to the wished ones."""
    steps = []
    for (one, begin, height), (other, far, level), size in matched_corners(words):
        lower = (segments[one], _spread(many, (low, high), (begin, height)))
        upper = (segments[other], _spread(many, (low, high), (far, level)))
        if (upper[0], sum(upper[1])) < (lower[0], sum(lower[1])):
            lower, upper = upper, lower
        steps.append((lower[0], lower[1], upper[0], upper[1], _spread(many, (low, high), size)))
    return steps


def _steps_of_two(blocks):
    """The steps for blocks of two letters, which need no banks."""
    words = []
    for home, laid in blocks:
        words.append((groups_of([(row[0], row[1]) for row in home]), groups_of([(row[0], row[1]) for row in laid])))
    return _corner_steps(words, list(range(len(blocks))), 2, 0, 1)


def weaving_steps(blocks, many):
    """The steps that weave blocks of so many letters from home to laid; banks are at last as they were."""
    if many < 2:
        return []
    if many == 2:
        return _steps_of_two(blocks)
    pairs = pairs_among(many)
    banks = []
    for at in range(len(blocks)):
        behind = len(blocks) + at * len(pairs)
        banks.append({pair: behind + k for k, pair in enumerate(pairs)})
    steps = []
    for at, (home, laid) in enumerate(blocks):
        steps.extend(_sorted_steps(at, home, banks[at]))
        steps.extend(_sorted_steps(at, laid, banks[at])[::-1])
    for low, high in pairs:
        words = []
        for home, laid in blocks:
            words.append((groups_of(_bank_runs(laid, low, high)), groups_of(_bank_runs(home, low, high))))
        segments = [own[(low, high)] for own in banks]
        steps.extend(_corner_steps(words, segments, many, low, high))
    return steps
