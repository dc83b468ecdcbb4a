"""Paintings: stripes of colours along a line, and the courses that lead one painting to another."""

from turnsleft.courses import course_with, swaps_at
from turnsleft.errors import BadRow, BadTop, NotOnLine, OtherLine, Unlike
from turnsleft.keys import is_below, key_of, ratio_at
from turnsleft.moves import starts_along
from turnsleft.ratios import Ratio, is_length, multiplied
from turnsleft.stretches import check_filled, cut_to, in_rows_order, row_at
from turnsleft.tones import within
from turnsleft.words import is_listed, is_name, is_tone


class Painting:
    """Stripes from 1 on that fill a line, joined where neighbours have one colour."""

    def __init__(self, top, stripes):
        if not is_length(top):
            raise BadTop()
        _check_stripes(stripes)
        check_filled([length for length, _ in stripes], top)
        self.top = top
        joined = _joined([(key_of(length), colour) for length, colour in stripes])
        self._stripes = [(ratio_at(length), colour) for length, colour in joined]

    def stripes(self):
        """The joined stripes."""
        return list(self._stripes)

    def colour(self, tone):
        """The colour of a tone."""
        if not is_tone(tone) or not within(tone, Ratio(1), self.top):
            raise NotOnLine(tone)
        _, _, colour = row_at(_rows_of(self), tone)
        return colour

    def amounts(self):
        """The amounts of the colours."""
        return {colour: _amount(self, colour) for colour in _colours_of([self])}

    def after(self, exchange):
        """The painting behind an exchange."""
        if exchange.top != self.top:
            raise OtherLine()
        rows = _rows_of(self)
        laid = []
        for start, length, factor in exchange.rows():
            laid.extend([(place * factor, part, colour) for place, part, colour in cut_to(rows, start, length)])
        return Painting(self.top, [(length, colour) for _, length, colour in in_rows_order(laid)])

    def course_to(self, other):
        """A course on the line that leads this painting to another one."""
        if other.top != self.top:
            raise OtherLine()
        for colour in _colours_of([self, other]):
            if _amount(self, colour) != _amount(other, colour):
                raise Unlike(colour)
        present = [(key_of(length), colour) for length, colour in self._stripes]
        wished = [(key_of(length), colour) for length, colour in other._stripes]
        return course_with(self.top, swaps_at(_leading_swaps(present, wished)), self.top)

    def __eq__(self, other):
        return isinstance(other, Painting) and self.top == other.top and self._stripes == other._stripes

    def __len__(self):
        return len(self._stripes)

    def __repr__(self):
        return f"Painting({len(self._stripes)} stripes)"


def _check_stripes(stripes):
    """Raise BadRow unless stripes is a list or tuple of tuples of a length and a colour."""
    if not is_listed(stripes):
        raise BadRow(-1)
    for at, stripe in enumerate(stripes):
        if not isinstance(stripe, tuple) or len(stripe) != 2:
            raise BadRow(at)
        if not is_length(stripe[0]) or not is_name(stripe[1]):
            raise BadRow(at)


def _rows_of(painting):
    """The stripes with their starts."""
    stripes = painting.stripes()
    starts = starts_along([length for length, _ in stripes])
    return [(start, length, colour) for start, (length, colour) in zip(starts, stripes)]


def _colours_of(paintings):
    """The ascending list of the colours of some paintings."""
    return sorted({colour for painting in paintings for _, colour in painting.stripes()})


def _amount(painting, colour):
    """The amount of a colour, 1 if the painting lacks it."""
    return multiplied([length for length, own in painting.stripes() if own == colour])


def _joined(stripes):
    """Stripes (key of the length, colour), of which neighbours with one colour are joined."""
    joined = []
    for length, colour in stripes:
        if joined and joined[-1][1] == colour:
            joined[-1] = (joined[-1][0] + length, colour)
        else:
            joined.append((length, colour))
    return joined


def _lesser(one, other):
    """The key of the lesser one of two ratios."""
    return one if is_below(one, other) else other


def _cut(stripes, key):
    """Stripes below and from a place on, which is counted from their start."""
    lower = []
    for at, (length, colour) in enumerate(stripes):
        if is_below(key, length):
            upper = [(length - key, colour), *stripes[at + 1:]]
            return (lower if key == 0 else [*lower, (key, colour)]), upper
        lower.append((length, colour))
        key = key - length
    return lower, []


def _fetched(stripes, colour, most):
    """The gap ahead of what is fetched, its length, and the stripes when it is exchanged with their start.

    It is the upper end of the nearest stripe with a colour, and fits into the gap ahead of this stripe.
    """
    at = 0
    gap = 0
    while stripes[at][1] != colour:
        gap = gap + stripes[at][0]
        at += 1
    whole = stripes[at][0]
    length = _lesser(_lesser(most, whole), gap)
    taken, between = _cut(stripes[:at], length)
    left = [(whole - length, colour)] if length != whole else []
    return gap + whole - length, length, _joined([(length, colour), *between, *left, *taken, *stripes[at + 1:]])


def _leading_swaps(present, wished):
    """The swaps (first, second, length) of keys that lead stripes to the wished ones, from below."""
    swaps = []
    place = 0
    for length, colour in wished:
        while length != 0:
            if present[0][1] != colour:
                far, size, present = _fetched(present, colour, length)
                swaps.append((place, place + far, size))
            part = _lesser(length, present[0][0])
            _, present = _cut(present, part)
            place = place + part
            length = length - part
    return swaps
