"""Stretches and rows: what is a row, where rows lie, whether they meet, and rows joined or cut.

A stretch is a tuple (start, length), a row a tuple (start, length, factor).
"""

from turnsleft.errors import BadRow, BadTop, NotFilled, OffLine, Overlap
from turnsleft.ratios import Ratio, is_length, is_ratio, multiplied, order_of
from turnsleft.tones import compared
from turnsleft.words import is_listed


def is_row(value):
    """Whether any value is a tuple of a ratio, a length and a ratio."""
    if not isinstance(value, tuple) or len(value) != 3:
        return False
    return is_ratio(value[0]) and is_length(value[1]) and is_ratio(value[2])


def lies_within(start, length, low, high):
    """Whether a stretch lies within the tones from low up to high."""
    return not start.below(low) and not high.below(start * length)


def homes_of(rows):
    """The stretches of rows."""
    return [(start, length) for start, length, _ in rows]


def images_of(rows):
    """The images of rows."""
    return [(start * factor, length) for start, length, factor in rows]


def in_rows_order(rows):
    """Rows or stretches in the ascending order of their starts."""
    return [rows[at] for at in order_of([row[0] for row in rows])]


def check_rows(rows):
    """Raise BadRow unless rows is a list or tuple of rows."""
    if not is_listed(rows):
        raise BadRow(-1)
    for at, row in enumerate(rows):
        if not is_row(row):
            raise BadRow(at)


def check_on_line(rows, top):
    """Raise OffLine with the first row whose stretch or image does not lie within the line."""
    unit = Ratio(1)
    for at, (start, length, factor) in enumerate(rows):
        if not lies_within(start, length, unit, top) or not lies_within(start * factor, length, unit, top):
            raise OffLine(at)


def _some_meet(stretches):
    """Whether some of the stretches meet. Then also two meet that are neighbours by their starts."""
    ordered = in_rows_order(stretches)
    for (start, length), (after, _) in zip(ordered, ordered[1:]):
        if after.below(start * length):
            return True
    return False


def _meeting_pairs(stretches):
    """The least pair of indexes of stretches that meet, in a list, which is empty if none do."""
    if not _some_meet(stretches):
        return []
    ends = [start * length for start, length in stretches]
    for one in range(len(stretches)):
        for other in range(one + 1, len(stretches)):
            if stretches[one][0].below(ends[other]) and stretches[other][0].below(ends[one]):
                return [(one, other)]
    return []


def check_apart(rows):
    """Raise Overlap with the least pair of rows whose stretches, or whose images, meet."""
    pairs = _meeting_pairs(homes_of(rows)) + _meeting_pairs(images_of(rows))
    if pairs:
        one, other = min(pairs)
        raise Overlap(one, other)


def check_partly(top, rows):
    """Raise what is wrong with a top, or with rows that may leave some of the line free."""
    if not is_length(top):
        raise BadTop()
    check_rows(rows)
    check_on_line(rows, top)
    check_apart(rows)


def check_filled(lengths, top):
    """Raise NotFilled unless the product of the lengths is the top."""
    missing = top // multiplied(lengths)
    if missing != Ratio(1):
        raise NotFilled(missing)


def joined_rows(rows):
    """Ascending rows, joined as long as possible."""
    joined = []
    for start, length, factor in rows:
        if joined:
            begin, behind, same = joined[-1]
            if factor == same and start == begin * behind:
                joined[-1] = (begin, behind * length, same)
                continue
        joined.append((start, length, factor))
    return joined


def joined_stretches(stretches):
    """Ascending stretches, joined where one starts at the end of another one."""
    joined = []
    for start, length in stretches:
        if joined:
            begin, behind = joined[-1]
            if start == begin * behind:
                joined[-1] = (begin, behind * length)
                continue
        joined.append((start, length))
    return joined


def gaps_between(stretches, top):
    """The longest stretches of a line that ascending stretches leave free."""
    gaps = []
    end = Ratio(1)
    for start, length in stretches:
        if end.below(start):
            gaps.append((end, start // end))
        end = start * length
    if end.below(top):
        gaps.append((end, top // end))
    return gaps


def row_at(rows, tone):
    """The row that a tone lies in, of ascending rows that fill the line."""
    low = 0
    high = len(rows)
    while high - low > 1:
        middle = (low + high) // 2
        if compared(tone, rows[middle][0]) < 0:
            high = middle
        else:
            low = middle
    return rows[low]


def place_among(rows, start):
    """The index of the last of ascending rows that starts at or below a ratio, 0 without one."""
    low = 0
    high = len(rows)
    while high - low > 1:
        middle = (low + high) // 2
        if start.below(rows[middle][0]):
            high = middle
        else:
            low = middle
    return low


def cut_to(rows, start, length):
    """Rows that fill a line in ascending order, cut to a stretch of it."""
    end = start * length
    at = place_among(rows, start)
    pieces = []
    while at < len(rows) and rows[at][0].below(end):
        begin, own, factor = rows[at]
        low = start if begin.below(start) else begin
        high = end if end.below(begin * own) else begin * own
        pieces.append((low, high // low, factor))
        at += 1
    return pieces
