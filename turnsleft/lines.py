"""Lines: stretches with gaps between them, joined into one line and parted again."""

from turnsleft.errors import BadOrder, BadRow, NotOnLine, OffLine, OtherLine, Overlap
from turnsleft.exchanges import Exchange
from turnsleft.moves import starts_along
from turnsleft.ratios import is_length, is_ratio, multiplied
from turnsleft.stretches import check_rows, cut_to, lies_within
from turnsleft.tones import led, within
from turnsleft.words import is_listed, is_tone

MOST_LINES = 5


class Lines:
    """One to five stretches in ascending order.

    They are kept as rows (start, length, factor) of the joined line, where the factor leads to the line itself.
    """

    def __init__(self, *stretches):
        _check_stretches(stretches)
        lengths = [length for _, length in stretches]
        self.top = multiplied(lengths)
        self._stretches = list(stretches)
        places = starts_along(lengths)
        self._rows = [(place, length, start // place) for place, (start, length) in zip(places, stretches)]

    def stretches(self):
        """The lines."""
        return list(self._stretches)

    def place(self, tone):
        """Where a tone of the lines lies on the joined line."""
        if is_tone(tone):
            for (start, length), (place, _, _) in zip(self._stretches, self._rows):
                if within(tone, start, length):
                    return led(tone, place // start)
        raise NotOnLine(tone)

    def back(self, tone):
        """Where a tone of the joined line lies on the lines."""
        if is_tone(tone):
            for place, length, factor in self._rows:
                if within(tone, place, length):
                    return led(tone, factor)
        raise NotOnLine(tone)

    def joined(self, rows):
        """The exchange of the joined line that rows between the lines are."""
        check_rows(rows)
        laid = []
        for at, (start, length, factor) in enumerate(rows):
            home = _factor_at(self._rows, start, length)
            image = _factor_at(self._rows, start * factor, length)
            if home is None or image is None:
                raise OffLine(at)
            laid.append((start // home, length, factor * home // image))
        return Exchange(self.top, laid)

    def parted(self, exchange):
        """The rows between the lines that an exchange of the joined line is."""
        if exchange.top != self.top:
            raise OtherLine()
        rows = []
        for start, length, factor in exchange.rows():
            for place, part, home in cut_to(self._rows, start, length):
                for goal, own, image in cut_to(self._rows, place * factor, part):
                    rows.append((goal // factor * home, own, factor * image // home))
        return rows

    def moved(self, starts):
        """The lines with the same lengths and other starts."""
        if not is_listed(starts) or len(starts) != len(self._stretches):
            raise BadOrder()
        stretches = [(start, length) for start, (_, length) in zip(starts, self._stretches)]
        return Lines(*stretches)

    def __eq__(self, other):
        return isinstance(other, Lines) and self._stretches == other._stretches

    def __len__(self):
        return len(self._stretches)

    def __repr__(self):
        return f"Lines({len(self._stretches)} lines)"


def _is_stretch(value):
    """Whether any value is a tuple of a ratio and a length."""
    return isinstance(value, tuple) and len(value) == 2 and is_ratio(value[0]) and is_length(value[1])


def _check_stretches(stretches):
    """Raise what is wrong with the stretches of lines."""
    if not stretches:
        raise BadRow(0)
    for at, stretch in enumerate(stretches):
        if not _is_stretch(stretch) or at == MOST_LINES:
            raise BadRow(at)
    for at in range(1, len(stretches)):
        start, length = stretches[at - 1]
        if stretches[at][0].below(start * length):
            raise Overlap(at - 1, at)


def _factor_at(rows, start, length):
    """The factor that leads to the line that a stretch lies in, None if it lies within none of them."""
    for place, whole, factor in rows:
        if lies_within(start, length, place * factor, place * factor * whole):
            return factor
    return None
