"""Exchanges of a line: rows that fill it, and whose images fill it again."""

from turnsleft.errors import BadText, NotOnLine, OffLine, OtherLine, TurnError
from turnsleft.ratios import Ratio, is_length, is_ratio, order_of
from turnsleft.stretches import (
    check_filled, check_partly, cut_to, images_of, in_rows_order, joined_rows, joined_stretches, lies_within, row_at,
)
from turnsleft.sums import pair_sum
from turnsleft.tones import led, within
from turnsleft.words import is_tone


class Exchange:
    """An exchange in its plain form."""

    def __init__(self, top, rows):
        check_partly(top, rows)
        check_filled([length for _, length, _ in rows], top)
        self.top = top
        self._rows = joined_rows(in_rows_order(rows))

    @staticmethod
    def read(text):
        """The exchange with a text."""
        if not isinstance(text, str):
            raise BadText()
        head, _, tail = text.partition(": ")
        top = Ratio.read(head)
        rows = [_read_row(part) for part in tail.split(", ")]
        try:
            exchange = Exchange(top, rows)
        except TurnError:
            raise BadText() from None
        if exchange.rows() != rows:
            raise BadText()
        return exchange

    def rows(self):
        """The rows of the plain form."""
        return list(self._rows)

    def laid(self):
        """The indexes of the rows in the ascending order of their images."""
        return order_of([start for start, _ in images_of(self._rows)])

    def image(self, start, length):
        """The longest stretches that the images of the tones of a stretch form."""
        if not is_ratio(start) or not is_length(length) or not lies_within(start, length, Ratio(1), self.top):
            raise OffLine(0)
        return joined_stretches(in_rows_order(images_of(cut_to(self._rows, start, length))))

    def __call__(self, tone):
        if not is_tone(tone) or not within(tone, Ratio(1), self.top):
            raise NotOnLine(tone)
        _, _, factor = row_at(self._rows, tone)
        return led(tone, factor)

    def walk(self, tone, many):
        """The images of a tone by the exchange done 1, 2, .., many times."""
        if not is_tone(tone) or not within(tone, Ratio(1), self.top):
            raise NotOnLine(tone)
        for _ in range(many):
            tone = self(tone)
            yield tone

    def times(self, k):
        """The exchange done k times."""
        power = ~self if k < 0 else self
        done = Exchange(self.top, [(Ratio(1), self.top, Ratio(1))])
        left = abs(k)
        while left > 0:
            if left % 2 == 1:
                done = done >> power
            left = left // 2
            # the last square would have the most rows of all, and nobody needs it
            if left > 0:
                power = power >> power
        return done

    @property
    def wedge(self):
        """The wedge of the exchange."""
        return pair_sum(self._rows)

    @property
    def fair(self):
        """Whether its wedge is flat."""
        return pair_sum(self._rows).flat

    @property
    def owed(self):
        """The number of turns that its wedge owes."""
        return pair_sum(self._rows).owed

    def text(self):
        """The text of the top, and the rows behind it."""
        rows = [f"{start.text()} {length.text()} {factor.text()}" for start, length, factor in self._rows]
        told = ", ".join(rows)
        return f"{self.top.text()}: {told}"

    def __rshift__(self, other):
        if self.top != other.top:
            raise OtherLine()
        rows = []
        for start, length, factor in self._rows:
            for place, part, behind in cut_to(other._rows, start * factor, length):
                rows.append((place // factor, part, factor * behind))
        return filling(self.top, rows)

    def __invert__(self):
        unit = Ratio(1)
        rows = [(start * factor, length, unit // factor) for start, length, factor in self._rows]
        return filling(self.top, in_rows_order(rows))

    def __eq__(self, other):
        return isinstance(other, Exchange) and self.top == other.top and self._rows == other._rows

    def __len__(self):
        return len(self._rows)

    def __str__(self):
        return f"{self.text()}"

    def __repr__(self):
        return f"Exchange({len(self._rows)} rows)"


def filling(top, rows):
    """The exchange with ascending rows that are known to fill the line, so that nothing is left to check."""
    exchange = Exchange(top, [(Ratio(1), top, Ratio(1))])
    exchange._rows = joined_rows(rows)
    return exchange


def _read_row(text):
    """The row that three texts of ratios with single spaces between them tell."""
    words = text.split(" ")
    if len(words) != 3:
        raise BadText()
    return (Ratio.read(words[0]), Ratio.read(words[1]), Ratio.read(words[2]))
