"""Courses: swaps that are done one after another on a line with some room behind it."""

from turnsleft.errors import BadRoom, BadSwap, BadTop, NotKept, NotOnLine, OtherLine
from turnsleft.exchanges import Exchange, filling
from turnsleft.keys import key_of, ratio_at
from turnsleft.moves import Swap, swap_with
from turnsleft.pieces import swapped
from turnsleft.ratios import Ratio, is_length, is_ratio, multiplied
from turnsleft.stretches import cut_to, in_rows_order
from turnsleft.tones import led, within
from turnsleft.words import is_listed, is_tone


def _check_swaps(swaps, room):
    """Raise BadSwap unless swaps is a list or tuple of swaps whose ends are at most the room."""
    if not is_listed(swaps):
        raise BadSwap(-1)
    for at, swap in enumerate(swaps):
        if not isinstance(swap, Swap) or room.below(swap.end):
            raise BadSwap(at)


class Course:
    """A list of swaps on a line with a room."""

    def __init__(self, top, swaps, *, room=None):
        if not is_length(top):
            raise BadTop()
        if room is not None and (not is_ratio(room) or room.below(top)):
            raise BadRoom()
        self.top = top
        self.room = top if room is None else room
        _check_swaps(swaps, self.room)
        self._swaps = list(swaps)

    def swaps(self):
        """The swaps, in order."""
        return list(self._swaps)

    @property
    def keeps(self):
        """Whether each tone from the top on is where it was behind all swaps."""
        return _stays_behind(_wide_rows(self.room, self._swaps), self.top)

    @property
    def product(self):
        """The product of the lengths of the swaps."""
        return multiplied([swap.length for swap in self._swaps])

    def wide(self):
        """The exchange of the wide line."""
        return filling(self.room, in_rows_order(_wide_rows(self.room, self._swaps)))

    def made(self):
        """The exchange that the course makes."""
        rows = self.wide().rows()
        if not _stays_behind(rows, self.top):
            raise NotKept()
        return filling(self.top, cut_to(rows, Ratio(1), self.top))

    def walk(self, tone):
        """Where a tone of the wide line stands behind each swap."""
        if not is_tone(tone) or not within(tone, Ratio(1), self.room):
            raise NotOnLine(tone)
        for swap in self._swaps:
            if within(tone, swap.first, swap.length):
                tone = led(tone, swap.second // swap.first)
            elif within(tone, swap.second, swap.length):
                tone = led(tone, swap.first // swap.second)
            yield tone

    def carried(self, exchange):
        """The course that makes the exchange, then what this course makes, then the exchange back."""
        if exchange.top != self.top:
            raise OtherLine()
        rows = (~exchange).rows()
        if self.top != self.room:
            rows = Exchange(self.room, rows + [(self.top, self.room // self.top, Ratio(1))]).rows()
        swaps = []
        for swap in self._swaps:
            swaps.extend(_carried_swaps(rows, swap))
        return Course(self.top, swaps, room=self.room)

    def cancelled(self):
        """The course without neighbouring equal swaps."""
        left = []
        for swap in self._swaps:
            if left and left[-1] == swap:
                left.pop()
            else:
                left.append(swap)
        return Course(self.top, left, room=self.room)

    def __add__(self, other):
        if self.top != other.top:
            raise OtherLine()
        room = other.room if self.room.below(other.room) else self.room
        return Course(self.top, [*self._swaps, *other._swaps], room=room)

    def __invert__(self):
        return Course(self.top, self._swaps[::-1], room=self.room)

    def __eq__(self, other):
        if not isinstance(other, Course):
            return False
        return self.top == other.top and self.room == other.room and self._swaps == other._swaps

    def __len__(self):
        return len(self._swaps)

    def __bool__(self):
        # a course without swaps is a course, too
        return True

    def __repr__(self):
        return f"Course({len(self._swaps)} swaps)"


def swaps_at(keys):
    """The swaps with keys (first, second, length) of stretches that are known to lie apart."""
    return [swap_with(ratio_at(first), ratio_at(second), ratio_at(length)) for first, second, length in keys]


def course_with(top, swaps, room):
    """The course with swaps whose ends are known to be at most the room, so that nothing is left to check."""
    course = Course(top, [], room=room)
    course._swaps = swaps
    return course


def _wide_rows(room, swaps):
    """Rows that tell the exchange of the wide line by swaps, one after another."""
    pieces = [(0, key_of(room), 0)]
    for swap in swaps:
        pieces = swapped(pieces, key_of(swap.first), key_of(swap.second), key_of(swap.length))
    return [(ratio_at(home), ratio_at(length), ratio_at(place - home)) for place, length, home in pieces]


def _stays_behind(rows, top):
    """Whether rows that tell an exchange of the wide line leave the tones from the top on where they are."""
    unit = Ratio(1)
    return all([factor == unit or not top.below(start * length) for start, length, factor in rows])


def _carried_swaps(rows, swap):
    """The swaps of the images of the longest pieces of a swap that lie within rows."""
    lower = cut_to(rows, swap.first, swap.length)
    upper = cut_to(rows, swap.second, swap.length)
    swaps = []
    begin = Ratio(1)
    one = 0
    other = 0
    while one < len(lower):
        start, length, factor = lower[one]
        above, along, shift = upper[other]
        low = start * length // swap.first
        high = above * along // swap.second
        end = high if high.below(low) else low
        first = swap.first * begin * factor
        second = swap.second * begin * shift
        swaps.append(_lower_first(first, second, end // begin))
        one = one + 1 if end == low else one
        other = other + 1 if end == high else other
        begin = end
    return swaps


def _lower_first(one, other, length):
    """The swap of two stretches with the same length, of which the lower one stands first."""
    return Swap(other, one, length) if other.below(one) else Swap(one, other, length)
