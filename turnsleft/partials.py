"""Partial exchanges: rows that leave gaps, and the exchanges that fill these."""

from turnsleft.errors import NothingLeft
from turnsleft.exchanges import Exchange
from turnsleft.nearby import exchange_with
from turnsleft.stretches import (
    check_partly, cut_to, gaps_between, homes_of, images_of, in_rows_order, joined_rows,
)


class Partial:
    """Rows of a line, joined, and the gaps that they leave at home and of their images."""

    def __init__(self, top, rows):
        check_partly(top, rows)
        self.top = top
        self._rows = joined_rows(in_rows_order(rows))
        self._homes = gaps_between(homes_of(self._rows), top)
        self._images = gaps_between(in_rows_order(images_of(self._rows)), top)

    def rows(self):
        """The joined rows, ascending."""
        return list(self._rows)

    def gaps(self):
        """The gaps at home and the gaps of the images."""
        return list(self._homes), list(self._images)

    @property
    def whole(self):
        """Whether there are no gaps."""
        return not self._homes

    def kept_by(self, exchange):
        """Whether an exchange does the same with the tones of the rows."""
        if not isinstance(exchange, Exchange) or exchange.top != self.top:
            return False
        rows = exchange.rows()
        for start, length, factor in self._rows:
            if any([own != factor for _, _, own in cut_to(rows, start, length)]):
                return False
        return True

    def with_row(self, start, length, factor):
        """The partial exchange with one more row."""
        return Partial(self.top, [*self._rows, (start, length, factor)])

    def completed(self, *, wedge=None):
        """The exchange that completes it in order, or one that completes it and has a wedge."""
        whole = Exchange(self.top, [*self._rows, *_rows_between(self._homes, self._images)])
        if wedge is None or whole.wedge == wedge:
            return whole
        if not self._homes:
            raise NothingLeft()
        start, length = _longest(self._homes)
        # what is done within a gap ahead of it changes no known tone
        return exchange_with(self.top, wedge - whole.wedge, low=start, high=start * length) >> whole

    def __eq__(self, other):
        return isinstance(other, Partial) and self.top == other.top and self._rows == other._rows

    def __len__(self):
        return len(self._rows)

    def __bool__(self):
        # a partial exchange without rows is one, too
        return True

    def __repr__(self):
        return f"Partial({len(self._rows)} rows)"


def _rows_between(homes, images):
    """The rows that lay the tones of some gaps, in order, into others that are as long together."""
    rows = []
    free = images[::-1]
    for start, length in homes:
        end = start * length
        while start.below(end):
            place, room = free.pop()
            part = room if room.below(end // start) else end // start
            rows.append((start, part, place // start))
            if part.below(room):
                free.append((place * part, room // part))
            start = start * part
    return rows


def _longest(stretches):
    """The lowest of the longest stretches."""
    found = stretches[0]
    for stretch in stretches:
        if found[1].below(stretch[1]):
            found = stretch
    return found
