"""Loose whole vectors made short by one another, and other vectors made short by them.

Each row has a list of parts: at the index of an earlier row, how much of what is new in that row there is in
the row; at its own index, how much is new in it. They are multiplied so that they are whole numbers: with the
products of all vectors they are determinants.
"""

from turnsleft.keys import dot
from turnsleft.stairs import less, nearest


def _parts_of(rows, parts, vector):
    """The parts of a vector behind some rows, whose parts are known."""
    own = []
    for at, row in enumerate([*rows, vector]):
        part = dot(vector, row)
        last = 1
        for index in range(at):
            other = own[index] if at == len(rows) else parts[at][index]
            part = (parts[index][index] * part - own[index] * other) // last
            last = parts[index][index]
        own.append(part)
    return own


def _lessened(rows, parts, vector):
    """A vector less multiples of rows, from the last row on, so that it has little of each; and its parts."""
    own = _parts_of(rows, parts, vector)
    for at in reversed(range(len(rows))):
        times = nearest(own[at], parts[at][at])
        vector = less(vector, times, rows[at])
        own = [*less(own[:at + 1], times, parts[at]), *own[at + 1:]]
    return vector, own


def _is_short(parts, own):
    """Whether a row has enough that is new, beside what is new in the row ahead of it."""
    at = len(parts)
    if at == 0:
        return True
    last = parts[at - 1][at - 1]
    ahead = parts[at - 2][at - 2] if at > 1 else 1
    return 4 * (own[at] * ahead + own[at - 1] * own[at - 1]) >= 3 * last * last


def shortened(vectors):
    """Rows that have the same whole sums as loose vectors, and are short; and the parts of the rows."""
    left = [list(vector) for vector in vectors][::-1]
    rows = []
    parts = []
    while left:
        vector, own = _lessened(rows, parts, left.pop())
        if _is_short(parts, own):
            rows.append(vector)
            parts.append(own)
        else:
            left.append(rows.pop())
            left.append(vector)
            parts.pop()
    return rows, parts


def short_beside(vector, vectors):
    """A vector less whole multiples of loose vectors, so that it is short."""
    rows, parts = shortened(vectors)
    lessened, _ = _lessened(rows, parts, vector)
    return lessened
