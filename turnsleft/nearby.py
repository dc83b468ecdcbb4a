"""Ratios near 1 with any bits, and exchanges with any wedge."""

from turnsleft.errors import BadTop
from turnsleft.keys import is_below, key_of, ratio_at
from turnsleft.moves import Swap, apart_on
from turnsleft.placing import turns_for, window_of
from turnsleft.ratios import Ratio, is_length, ratio_with


def _key_near(bits, room, many):
    """The key of a ratio above 1 with bits, so that so many times it is within the key of a length.

    4 and 9 are divided by one another until they are near to 1. Where the ratio is above what is left of
    them, it is divided by this, which does not change its bits.
    """
    key = key_of(ratio_with(bits)) if any(bits) else key_of(Ratio(4))
    great = key_of(Ratio(9))
    small = key_of(Ratio(4))
    while is_below(room, many * key):
        while is_below(small, key):
            key = key - small
        great, small = small, great - small
        while is_below(great, small):
            small = small - great
    return key


def ratio_near(bits, most):
    """A ratio above 1 and at most a length that has these bits."""
    return ratio_at(_key_near(bits, key_of(most), 1))


def exchange_with(top, wedge, *, low=None, high=None):
    """An exchange of a line that has a wedge and leaves all tones outside a window."""
    if not is_length(top):
        raise BadTop()
    low, high = window_of(top, low, high)
    turns = turns_for(wedge, low=low, high=high)
    done = apart_on(top, turns)
    left = wedge
    for turn in turns:
        left = left - turn.wedge
    bits = left.bits()
    if any(bits):
        length = ratio_at(_key_near(bits, key_of(high) - key_of(low), 2))
        done = done >> Swap(low, low * length, length).on(top)
    return done
