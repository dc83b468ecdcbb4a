"""Windows: what an exchange shows in a part of its line, and what goes on outside."""

from turnsleft.errors import BadWindow, NotOnLine, TooLong
from turnsleft.exchanges import Exchange
from turnsleft.placing import is_window
from turnsleft.ratios import Ratio, order_of
from turnsleft.stretches import cut_to, gaps_between, in_rows_order
from turnsleft.tones import led, within
from turnsleft.words import is_tone

MOST_FLOORS = 600


class Window:
    """A window of the line of an exchange, with its towers.

    A tower is kept as a tuple (start, length, factors, back): the base is multiplied by each of the factors
    to tell the floors, and by back to tell where it returns.
    """

    def __init__(self, exchange, *, low, high):
        if not is_window(low, high) or exchange.top.below(high):
            raise BadWindow()
        self.low = low
        self.high = high
        self._exchange = exchange
        self._towers = _towers_in(exchange.rows(), low, high)

    def towers(self):
        """The bases with their heights."""
        return [(start, length, len(factors)) for start, length, factors, _ in self._towers]

    def floors(self):
        """All floors, tower by tower."""
        for at, (start, length, factors, _) in enumerate(self._towers):
            for floor, factor in enumerate(factors):
                yield (at, floor, start * factor, length)

    def first_return(self, tone):
        """The height of a tone of the window, and where it returns."""
        if is_tone(tone):
            for start, length, factors, back in self._towers:
                if within(tone, start, length):
                    return len(factors), led(tone, back)
        raise NotOnLine(tone)

    def seen(self):
        """The exchange that leads each tone of the window to its first return."""
        rows = [(start, length, back) for start, length, _, back in self._towers]
        return Exchange(self._exchange.top, rows + _still_beside(rows, self._exchange.top))

    def shift(self):
        """The exchange that leads each floor to the next one, and the last one back to the base."""
        rows = _shifting_rows(self._towers)
        return Exchange(self._exchange.top, rows + _still_beside(rows, self._exchange.top))

    def rest(self):
        """The exchange that stays on all floors and does outside what the whole one does."""
        taken = _floor_stretches(self._towers)
        rows = [(start, length, Ratio(1)) for start, length in taken]
        for start, length in gaps_between(taken, self._exchange.top):
            rows.extend(cut_to(self._exchange.rows(), start, length))
        return Exchange(self._exchange.top, rows)

    def alone(self):
        """What is seen, on a line of its own."""
        rows = [(start // self.low, length, back) for start, length, _, back in self._towers]
        return Exchange(self.high // self.low, rows)

    def __len__(self):
        return len(self._towers)

    def __repr__(self):
        return f"Window({len(self._towers)} towers)"


def _parted(start, length, low, high):
    """The parts (start, length, inside) of a stretch that lie inside or outside a window."""
    end = start * length
    marks = [start, *[mark for mark in (low, high) if start.below(mark) and mark.below(end)], end]
    return [
        (mark, above // mark, not mark.below(low) and mark.below(high)) for mark, above in zip(marks, marks[1:])
    ]


def _raised(rows, pieces, low, high):
    """Pieces (start, length, factors), done once more: the towers of those that return, and the other ones."""
    back = []
    out = []
    for start, length, factors in pieces:
        for place, part, factor in cut_to(rows, start * factors[-1], length):
            for image, own, inside in _parted(place * factor, part, low, high):
                base = image // factor // factors[-1]
                if inside:
                    back.append((base, own, factors, image // base))
                else:
                    out.append((base, own, [*factors, image // base]))
    return back, out


def _towers_in(rows, low, high):
    """The towers of a window in the ascending order of their bases."""
    towers = []
    pieces = [(low, high // low, [Ratio(1)])]
    while pieces:
        back, pieces = _raised(rows, pieces, low, high)
        towers.extend(back)
        # no floor is lost when pieces are cut or go on, so there are not fewer at last
        if sum([len(tower[2]) for tower in towers + pieces]) > MOST_FLOORS:
            raise TooLong(MOST_FLOORS)
    return [towers[at] for at in order_of([tower[0] for tower in towers])]


def _floor_stretches(towers):
    """The ascending stretches of all floors."""
    return in_rows_order([(start * factor, length) for start, length, factors, _ in towers for factor in factors])


def _shifting_rows(towers):
    """The rows that lead each floor to the next one, and the last one to the base."""
    rows = []
    for start, length, factors, _ in towers:
        for factor, following in zip(factors, [*factors[1:], factors[0]]):
            rows.append((start * factor, length, following // factor))
    return rows


def _still_beside(rows, top):
    """The rows of a line that stay where other rows leave it free."""
    stretches = in_rows_order([(start, length) for start, length, _ in rows])
    return [(start, length, Ratio(1)) for start, length in gaps_between(stretches, top)]
