"""Words of two letters a and b, led to one another by exchanging equal parts.

A word is told by groups (width, height) of its letters a: so many of them follow one another, and so many
letters b stand ahead of them. Drawn as columns, a group falls if letters b ahead of it come behind it. One
swap makes a corner of a word fall and a corner of the same size rise.
"""


def groups_of(runs):
    """The groups of a word that is told by runs: so many letters a, and behind them so many letters b."""
    groups = []
    height = 0
    for width, others in runs:
        if width > 0:
            groups.append((width, height))
        height = height + others
    return groups


def _differing(now, wished):
    """The parts (begin, width, height, goal) of a word that have another height in the wished word."""
    own = now[::-1]
    other = wished[::-1]
    parts = []
    begin = 0
    while own:
        width, height = own.pop()
        breadth, goal = other.pop()
        both = min(width, breadth)
        if height != goal:
            parts.append((begin, both, height, goal))
        if width > both:
            own.append((width - both, height))
        if breadth > both:
            other.append((breadth - both, goal))
        begin = begin + both
    return parts


def _to_move(words):
    """The parts (word, begin, width, height, depth) that fall, from the last one, and those that rise."""
    falling = []
    rising = []
    for at, (now, wished) in enumerate(words):
        for begin, width, height, goal in _differing(now, wished):
            if height > goal:
                falling.append((at, begin, width, height, height - goal))
            else:
                rising.append((at, begin, width, height, goal - height))
    return falling[::-1], rising


def matched_corners(words):
    """The corners that fall and rise, one pair after another, to lead each word to the one that is wished.

    A word is a pair (now, wished) of groups; all of them together fall as much as they rise. An item is a
    tuple of the corner that falls, (word, letters a ahead, letters b ahead), the one that rises and their
    size. The lowest parts fall first and the highest ones rise first, so that no other part is in the way.
    """
    falling, rising = _to_move(words)
    corners = []
    while falling:
        one, begin, width, height, depth = falling.pop()
        other, place, breadth, level, lift = rising.pop()
        wide = min(width, breadth)
        high = min(depth, lift)
        far = place + breadth - wide
        corners.append(((one, begin, height - high), (other, far, level), (wide, high)))
        if width > wide:
            falling.append((one, begin + wide, width - wide, height, depth))
        if depth > high:
            falling.append((one, begin, wide, height - high, depth - high))
        if breadth > wide:
            rising.append((other, place, breadth - wide, level, lift))
        if lift > high:
            rising.append((other, far, wide, level + high, lift - high))
    return corners
