"""Pieces that fill a line, behind swaps: tuples (place, length, home) of keys of ratios.

A piece is a part of the line that is moved as a whole. Its home is where it comes from, or any other mark
that goes along with its tones. Neighbours that are neighbours by their homes, too, are one piece.
"""

from turnsleft.keys import is_below


def _split_at(pieces, cut):
    """Pieces that follow one another, those below a place and those from it on."""
    low = 0
    high = len(pieces)
    while low < high:
        middle = (low + high) // 2
        if is_below(pieces[middle][0], cut):
            low = middle + 1
        else:
            high = middle
    if low == 0:
        return [], pieces
    place, length, home = pieces[low - 1]
    lower = cut - place
    if not is_below(lower, length):
        return pieces[:low], pieces[low:]
    return [*pieces[:low - 1], (place, lower, home)], [(cut, length - lower, home + lower), *pieces[low:]]


def _behind(below, above):
    """Pieces and those that follow them, of which two are joined if they belong together."""
    if not below or not above:
        return below + above
    place, length, home = below[-1]
    _, along, behind = above[0]
    if home + length != behind:
        return below + above
    return [*below[:-1], (place, length + along, home), *above[1:]]


def swapped(pieces, first, second, length):
    """Pieces that fill the line in ascending order, behind one more swap."""
    below, rest = _split_at(pieces, first)
    lower, rest = _split_at(rest, first + length)
    between, rest = _split_at(rest, second)
    upper, above = _split_at(rest, second + length)
    shift = second - first
    down = [(place - shift, own, home) for place, own, home in upper]
    up = [(place + shift, own, home) for place, own, home in lower]
    return _behind(_behind(_behind(_behind(below, down), between), up), above)


def _bring(goals, places, at):
    """Exchange as much as can be at once with what belongs to a place; where that was, and how much it is."""
    source = places[at]
    _, own = goals[source]
    length = own if is_below(own, source - at) else source - at
    if is_below(length, own):
        goals[source + length] = (at + length, own - length)
        places[at + length] = source + length
    here = at
    end = at + length
    while is_below(here, end):
        goal, part = goals[here]
        if is_below(end, here + part):
            goals[end] = (goal + end - here, here + part - end)
            places[goal + end - here] = end
            part = end - here
        goals[source + here - at] = (goal, part)
        places[goal] = source + here - at
        here = here + part
    return source, length


def settling_swaps(pieces):
    """The swaps (first, second, length) that lead each piece to its goal, which stands in place of its home.

    They come to an end where all pieces and goals begin and end at the letters of one word.
    """
    goals = {}
    places = {}
    for place, length, goal in pieces:
        goals[place] = (goal, length)
        places[goal] = place
    swaps = []
    at = 0
    while at in goals:
        goal, length = goals[at]
        if goal != at:
            source, length = _bring(goals, places, at)
            swaps.append((at, source, length))
        at = at + length
    return swaps
