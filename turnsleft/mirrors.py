"""Mirrored exchanges: rows of which some turn the order of their tones, and the parity that these leave.

A mirror row is a tuple (start, length, image, mirrored).
"""

from turnsleft.errors import BadLength, BadRow, BadStart, BadTop, NotOnLine, OffLine, OtherLine
from turnsleft.moves import is_start
from turnsleft.ratios import PRIMES, Ratio, is_length, is_ratio
from turnsleft.stretches import check_apart, check_filled, check_on_line, cut_to, in_rows_order, row_at
from turnsleft.sums import pair_sum
from turnsleft.tones import compared, led, within
from turnsleft.wedges import PAIRS
from turnsleft.words import is_listed, is_tone, tone_of


class Mirrored:
    """Mirror rows that fill a line, and whose images fill it again."""

    def __init__(self, top, rows):
        if not is_length(top):
            raise BadTop()
        _check_mirror_rows(rows)
        plain = _plain_rows(rows)
        check_on_line(plain, top)
        check_apart(plain)
        check_filled([length for _, length, _ in plain], top)
        self.top = top
        self._rows = _joined(in_rows_order(rows))

    @staticmethod
    def plain(exchange):
        """The same as an exchange, without mirrored rows."""
        rows = [(start, length, start * factor, False) for start, length, factor in exchange.rows()]
        return Mirrored(exchange.top, rows)

    def rows(self):
        """The joined mirror rows, ascending."""
        return list(self._rows)

    def __call__(self, tone):
        if not is_tone(tone) or not within(tone, Ratio(1), self.top):
            raise NotOnLine(tone)
        row = row_at(self._rows, tone)
        start, _, image, mirrored = row
        if not mirrored:
            return led(tone, image // start)
        if compared(tone, start) == 0:
            return None
        whole = _whole_of(row)
        return tone_of(whole.over * tone[1], whole.under * tone[0])

    @property
    def parity(self):
        """The crosses, the halves and the counts."""
        wedge = pair_sum(_plain_rows(self._rows))
        powers = [length.powers() for _, length, _, mirrored in self._rows if mirrored]
        crosses = [sum([own[p] * own[q] for own in powers]) for p, q in PAIRS]
        halves = [sum([own[p] * (own[p] - 1) // 2 for own in powers]) for p in range(len(PRIMES))]
        counts = [sum([own[p] for own in powers]) for p in range(len(PRIMES))]
        return (
            tuple([(number + cross) % 2 for number, cross in zip(wedge.pairs(), crosses)]),
            tuple([(bit + half) % 2 for bit, half in zip(wedge.bits(), halves)]),
            tuple([count % 2 for count in counts]),
        )

    def __rshift__(self, other):
        if self.top != other.top:
            raise OtherLine()
        homes = [(row[0], row[1], row) for row in other._rows]
        rows = []
        for start, length, image, mirrored in self._rows:
            back = (image, length, start, mirrored)
            for place, part, row in cut_to(homes, image, length):
                rows.append((_led_start(back, place, part), part, _led_start(row, place, part), mirrored != row[3]))
        return Mirrored(self.top, rows)

    def __invert__(self):
        return Mirrored(self.top, [(image, length, start, mirrored) for start, length, image, mirrored in self._rows])

    def __eq__(self, other):
        return isinstance(other, Mirrored) and self.top == other.top and self._rows == other._rows

    def __len__(self):
        return len(self._rows)

    def __repr__(self):
        return f"Mirrored({len(self._rows)} rows)"


def _is_mirror_row(value):
    """Whether any value is a tuple of a ratio, a length, a ratio, and True or False."""
    if not isinstance(value, tuple) or len(value) != 4:
        return False
    return is_ratio(value[0]) and is_length(value[1]) and is_ratio(value[2]) and isinstance(value[3], bool)


def _check_mirror_rows(rows):
    """Raise BadRow unless rows is a list or tuple of mirror rows."""
    if not is_listed(rows):
        raise BadRow(-1)
    for at, row in enumerate(rows):
        if not _is_mirror_row(row):
            raise BadRow(at)


def _plain_rows(rows):
    """The rows (start, length, factor) with the same stretches and images as mirror rows."""
    return [(start, length, image // start) for start, length, image, _ in rows]


def _whole_of(row):
    """The product of each tone of a mirrored row and its image."""
    start, length, image, _ = row
    return start * length * image


def _led_start(row, start, length):
    """The start of the image of a stretch that lies within a mirror row."""
    if row[3]:
        return _whole_of(row) // start // length
    return start * row[2] // row[0]


def _belong(row, following):
    """Whether two mirror rows, of which the second one starts where the first one ends, are one."""
    if row[3] != following[3]:
        return False
    if row[3]:
        return _whole_of(row) == _whole_of(following)
    return row[2] // row[0] == following[2] // following[0]


def _joined(rows):
    """Ascending mirror rows that fill a line, joined as long as possible."""
    joined = []
    for row in rows:
        if joined and _belong(joined[-1], row):
            start, length, image, mirrored = joined[-1]
            # where the order is turned, the upper stretch has the lower image
            joined[-1] = (start, length * row[1], row[2] if mirrored else image, mirrored)
        else:
            joined.append(row)
    return joined


def mirror(top, start, length):
    """One stretch of a line is mirrored in its place."""
    if not is_length(top):
        raise BadTop()
    if not is_start(start):
        raise BadStart()
    if not is_length(length):
        raise BadLength(0)
    end = start * length
    if top.below(end):
        raise OffLine(0)
    unit = Ratio(1)
    rows = [(unit, start, unit, False), (start, length, start, True), (end, top // end, end, False)]
    return Mirrored(top, [row for row in rows if is_length(row[1])])


def three_mirrors(top, turn):
    """The three mirrored exchanges, each with one mirrored stretch, that one after another are a turn."""
    start = turn.start
    whole = mirror(top, start, turn.first * turn.second)
    return [whole, mirror(top, start, turn.second), mirror(top, start * turn.second, turn.first)]


def parities_added(one, other):
    """The sum of two parities."""
    return tuple([tuple([(own + bit) % 2 for own, bit in zip(row, more)]) for row, more in zip(one, other)])
