"""Turns made small and put into windows, and exchanges resolved into a course and turns."""

from turnsleft.courses import course_with, swaps_at
from turnsleft.errors import BadLength, BadWindow, Level, TooLong
from turnsleft.exchanges import Exchange
from turnsleft.keys import is_below, key_of, ratio_at
from turnsleft.making import course_for
from turnsleft.moves import Turn
from turnsleft.normal import as_lengths, reach_of, turned_vectors
from turnsleft.ratios import Ratio, is_length, is_ratio, ratio_with

MOST_STEPS = 400
MOST_PARTS = 16


def shrunk(turn, *, most):
    """The swaps and the last turn of smaller turns, the first one whose product is at most a length."""
    if not is_length(most):
        raise BadLength(0)
    swaps = []
    while most.below(turn.first * turn.second):
        if turn.first == turn.second:
            raise Level()
        if len(swaps) == MOST_STEPS:
            raise TooLong(MOST_STEPS)
        swap, turn = turn.smaller()
        swaps.append(swap)
    return swaps, turn


def is_window(low, high):
    """Whether two values tell a window of some line."""
    return is_ratio(low) and is_ratio(high) and not low.below(Ratio(1)) and low.below(high)


def window_of(top, low, high):
    """The pair (low, high) of a window of a line, where None stands for 1 and for the top."""
    low = Ratio(1) if low is None else low
    high = top if high is None else high
    if not is_window(low, high) or top.below(high):
        raise BadWindow()
    return low, high


def _shares(pairs):
    """How many parts of a window each of some pairs of vectors takes, so that no powers grow too great."""
    reaches = [reach_of(u, v) for u, v in pairs]
    whole = sum(reaches)
    return [1 + (MOST_PARTS * reach) // whole for reach in reaches]


def _small_turn(turn, room, many):
    """A turn (start, first, second) of keys, and the swaps that lead from it to a small one.

    Smaller turns are taken until so many times the product is within a room.
    """
    start, first, second = turn
    swaps = []
    while is_below(room, many * (first + second)):
        if is_below(second, first):
            first = first - second
            swaps.append((start + first, start + first + second, second))
        else:
            swaps.append((start, start + first, first))
            start = start + first
            second = second - first
    return swaps, (start, first, second)


def _made_small(wedge, low, high):
    """For each turn that a wedge owes a great pair of lengths, and how it is made small for a window.

    An item is a tuple (first, second, room, many) of keys and of what _small_turn needs.
    """
    pairs = turned_vectors(wedge.matrix())
    shares = _shares(pairs)
    window = key_of(high) - key_of(low)
    items = []
    for (u, v), share in zip(pairs, shares):
        first, second = as_lengths(ratio_with(u), ratio_with(v))
        items.append((key_of(first), key_of(second), share * window, sum(shares)))
    return items


def _placed(items, low):
    """The keys (start, first, second) of small turns that stand side by side from a ratio on."""
    start = key_of(low)
    placed = []
    for first, second, room, many in items:
        _, small = _small_turn((0, first, second), room, many)
        placed.append((start, small[1], small[2]))
        start = start + small[1] + small[2]
    return placed


def _turns_at(placed):
    """The turns with keys."""
    return [Turn(ratio_at(start), ratio_at(first), ratio_at(second)) for start, first, second in placed]


def turns_for(wedge, *, low, high):
    """Turns within a window, side by side, whose wedges have the sum of the table of a wedge."""
    if not is_window(low, high):
        raise BadWindow()
    return _turns_at(_placed(_made_small(wedge, low, high), low))


def _undone_behind(exchange, items):
    """An exchange of a line and, behind its top, the great turns back, one after another."""
    rows = exchange.rows()
    unit = Ratio(1)
    end = exchange.top
    for one, other, _, _ in items:
        first = ratio_at(one)
        second = ratio_at(other)
        rows.append((end, second, first))
        rows.append((end * second, first, unit // second))
        end = end * first * second
    return Exchange(end, rows)


def _led_into(small, placed):
    """The swaps that lead a turn with keys to the same one at another place, apart from it and lower."""
    start, first, second = small
    place = placed[0]
    return [
        (place, start, first + second),
        (place, start + second, first),
        (place + first, start, second),
    ]


def resolved(exchange, *, low=None, high=None):
    """A course and turns in a window, which one after another are an exchange.

    At first the turns are great and stand behind the line. They are made small there, and then led into the
    window, so that no great number of small pieces is needed.
    """
    low, high = window_of(exchange.top, low, high)
    items = _made_small(exchange.wedge, low, high)
    placed = _placed(items, low)
    course = course_for(_undone_behind(exchange, items))
    swaps = []
    start = key_of(exchange.top)
    for (first, second, room, many), own in zip(items, placed):
        smaller, small = _small_turn((start, first, second), room, many)
        swaps.extend(smaller + _led_into(small, own))
        start = start + first + second
    return course_with(exchange.top, course.swaps() + swaps_at(swaps), course.room), _turns_at(placed)
