"""Moves: turns, swaps and folds, arranged lengths and commutators."""

from turnsleft.errors import BadLength, BadOrder, BadRatio, BadStart, BadTop, Meet, OffLine
from turnsleft.exchanges import Exchange
from turnsleft.ratios import Ratio, is_length, is_ratio, multiplied
from turnsleft.stretches import gaps_between
from turnsleft.wedges import PAIRS, Wedge, wedge_of
from turnsleft.words import is_listed, is_number


def is_start(value):
    """Whether any value is a ratio from 1 on."""
    return is_ratio(value) and not value.below(Ratio(1))


def _moved(top, end, rows):
    """The exchange of a line with rows up to an end, of which those without a length are left out."""
    if not is_length(top):
        raise BadTop()
    if top.below(end):
        raise OffLine(0)
    rows = rows + [(end, top // end, Ratio(1))]
    return Exchange(top, [row for row in rows if is_length(row[1])])


class Turn:
    """Two neighbours laid the other way round."""

    def __init__(self, start, first, second):
        if not is_start(start):
            raise BadStart()
        if not is_length(first):
            raise BadLength(0)
        if not is_length(second):
            raise BadLength(1)
        self.start = start
        self.first = first
        self.second = second

    @property
    def end(self):
        """The end of the upper stretch."""
        return self.start * self.first * self.second

    @property
    def wedge(self):
        """The wedge of the two lengths."""
        return wedge_of(self.first, self.second)

    def rows(self):
        """The rows of the two stretches."""
        return [(self.start, self.first, self.second), (self.start * self.first, self.second, Ratio(1) // self.first)]

    def on(self, top):
        """The exchange of the line."""
        return _moved(top, self.end, [(Ratio(1), self.start, Ratio(1)), *self.rows()])

    def smaller(self):
        """The swap and the smaller turn that are the turn, None if the lengths are equal."""
        start = self.start
        first = self.first
        second = self.second
        if first == second:
            return None
        if second.below(first):
            left = first // second
            return (Swap(start * left, start * first, second), Turn(start, left, second))
        return (Swap(start, start * first, first), Turn(start * first, first, second // first))

    def __eq__(self, other):
        if not isinstance(other, Turn):
            return False
        return self.start == other.start and self.first == other.first and self.second == other.second

    def __repr__(self):
        return f"Turn({self.start.text()}, {self.first.text()}, {self.second.text()})"


class Swap:
    """Two stretches of one length exchanged."""

    def __init__(self, first, second, length):
        if not is_start(first) or not is_start(second):
            raise BadStart()
        if not is_length(length):
            raise BadLength(0)
        if second.below(first * length):
            raise Meet()
        self.first = first
        self.second = second
        self.length = length

    @property
    def end(self):
        """The end of the upper stretch."""
        return self.second * self.length

    @property
    def wedge(self):
        """The wedge: it is flat, with the bits of the length."""
        return Wedge([0] * len(PAIRS), self.length.bits())

    def on(self, top):
        """The exchange of the line."""
        unit = Ratio(1)
        shift = self.second // self.first
        behind = self.first * self.length
        rows = [
            (unit, self.first, unit),
            (self.first, self.length, shift),
            (behind, self.second // behind, unit),
            (self.second, self.length, unit // shift),
        ]
        return _moved(top, self.end, rows)

    def __eq__(self, other):
        if not isinstance(other, Swap):
            return False
        return self.first == other.first and self.second == other.second and self.length == other.length

    def __repr__(self):
        return f"Swap({self.first.text()}, {self.second.text()}, {self.length.text()})"


def swap_with(first, second, length):
    """The swap of two stretches that are known to lie apart, so that no great numbers are to be compared."""
    swap = Swap(Ratio(1), length, length)
    swap.first = first
    swap.second = second
    return swap


def still(top):
    """The exchange of a line that stays."""
    return Exchange(top, [(Ratio(1), top, Ratio(1))])


def apart_on(top, turns):
    """The exchange of a line by turns that stand apart in ascending order."""
    rows = []
    taken = []
    for turn in turns:
        rows.extend(turn.rows())
        taken.append((turn.start, turn.first * turn.second))
    rows.extend([(start, length, Ratio(1)) for start, length in gaps_between(taken, top)])
    return Exchange(top, rows)


def led_back(ratio, top):
    """A ratio times the power of the top that leads it to where 1 <= it < top."""
    unit = Ratio(1)
    if ratio.below(unit):
        back = led_back(unit // ratio, top)
        return unit if back == unit else top // back
    powers = [top]
    while powers[-1].below(ratio):
        powers.append(powers[-1] * powers[-1])
    for power in reversed(powers):
        if not ratio.below(power):
            ratio = ratio // power
    return ratio


def fold(top, by):
    """All tones of a line multiplied by a ratio, and led back to the line."""
    if not is_length(top):
        raise BadTop()
    if not is_ratio(by):
        raise BadRatio()
    unit = Ratio(1)
    up = led_back(by, top)
    rows = [(unit, top // up, up), (top // up, up, up // top)]
    return Exchange(top, [row for row in rows if is_length(row[1])])


def starts_along(lengths):
    """The starts of stretches with these lengths that follow one another from 1 on."""
    starts = []
    start = Ratio(1)
    for length in lengths:
        starts.append(start)
        start = start * length
    return starts


def is_order(value):
    """Whether any value is a list or tuple that has each of its indexes once."""
    if not is_listed(value) or not all([is_number(item) for item in value]):
        return False
    return sorted(value) == list(range(len(value)))


def arranged(lengths, order):
    """The exchange that lays stretches with these lengths in another order."""
    if not is_listed(lengths) or not lengths:
        raise BadLength(-1)
    for at, length in enumerate(lengths):
        if not is_length(length):
            raise BadLength(at)
    if not is_order(order) or len(order) != len(lengths):
        raise BadOrder()
    starts = starts_along(lengths)
    places = starts_along([lengths[at] for at in order])
    rows = [(starts[at], lengths[at], place // starts[at]) for at, place in zip(order, places)]
    return Exchange(multiplied(lengths), rows)


def commutator(e, f):
    """e, then f, then e back, then f back."""
    return e >> f >> ~e >> ~f
