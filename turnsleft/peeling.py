"""Swaps of whole pieces of a line that leave fewer pieces, one after another.

Most exchanges that are made of a few swaps are taken apart in this way, without looking at atoms. The pieces
are those of turnsleft.pieces, in the ascending order of their places; a break is a place where two of them,
or one of them and an end of the line, are no neighbours by their homes.
"""

from turnsleft.pieces import swapped

MOST_PIECES = 250


def _joins(pieces, lower, upper):
    """1 if the piece lower comes home right ahead of the piece upper, otherwise 0; -1 and len are the ends."""
    place, length, _ = pieces[-1]
    end = 0 if lower < 0 else pieces[lower][1] + pieces[lower][2]
    begin = place + length if upper == len(pieces) else pieces[upper][2]
    return 1 if begin == end else 0


def _gain(pieces, swap):
    """How many breaks less there are behind a swap (one, end, other, close) of the pieces between indexes."""
    one, end, other, close = swap
    before = [(one - 1, one), (end - 1, end), (other - 1, other), (close - 1, close)]
    behind = [(one - 1, other), (close - 1, end), (other - 1, one), (end - 1, close)]
    if end == other:
        before = [(one - 1, one), (end - 1, end), (close - 1, close)]
        behind = [(one - 1, other), (close - 1, one), (end - 1, close)]
    now = sum([_joins(pieces, lower, upper) for lower, upper in before])
    return sum([_joins(pieces, lower, upper) for lower, upper in behind]) - now


def _from_starts(marks, one, other):
    """The swaps of equal parts that start at two indexes, the lower one first."""
    found = []
    end = one + 1
    close = other + 1
    while end <= other and close < len(marks):
        gap = (marks[end] - marks[one]) - (marks[close] - marks[other])
        if gap == 0:
            found.append((one, end, other, close))
        if gap <= 0:
            end += 1
        else:
            close += 1
    return found


def _to_ends(marks, end, close):
    """The swaps of equal parts that end at two indexes, the lower one first."""
    found = []
    one = end - 1
    other = close - 1
    while one >= 0 and other >= end:
        gap = (marks[end] - marks[one]) - (marks[close] - marks[other])
        if gap == 0:
            found.append((one, end, other, close))
        if gap <= 0:
            one -= 1
        else:
            other -= 1
    return found


def _swaps_that_join(pieces):
    """The swaps of equal parts that join at least two pieces, or a piece and an end of the line."""
    place, length, _ = pieces[-1]
    marks = [place for place, _, _ in pieces] + [place + length]
    ends = [0] + [home + length for _, length, home in pieces]
    followers = {home: at for at, (_, _, home) in enumerate(pieces)}
    followers[marks[-1]] = len(pieces)
    found = []
    for at, end in enumerate(ends):
        other = followers[end]
        if at == other:
            continue
        if max(at, other) < len(pieces):
            found.extend(_from_starts(marks, min(at, other), max(at, other)))
        if min(at, other) > 0:
            found.extend(_to_ends(marks, min(at, other), max(at, other)))
    return found


def _best_swap(pieces):
    """The swap (one, end, other, close) that leaves fewest breaks, None if none leaves fewer."""
    best = None
    most = 0
    for swap in _swaps_that_join(pieces):
        gain = _gain(pieces, swap)
        if gain > most:
            most = gain
            best = swap
    return best


def peeled(pieces):
    """The pieces behind swaps that leave fewer of them, and these swaps as tuples (first, second, length)."""
    swaps = []
    found = _best_swap(pieces) if len(pieces) <= MOST_PIECES else None
    while found is not None:
        one, end, other, _ = found
        first = pieces[one][0]
        length = pieces[end][0] - first
        swaps.append((first, pieces[other][0], length))
        pieces = swapped(pieces, first, pieces[other][0], length)
        found = _best_swap(pieces)
    return pieces, swaps
