"""Whole numbers that stand for ratios: the key of a product is the sum of the keys.

A key has the logarithm of the ratio ahead and its powers behind, so that keys are compared and added instead
of great numerators and denominators. Where two keys are next to each other, the powers decide.
"""

from turnsleft.logs import log_of
from turnsleft.ratios import PRIMES, is_length, ratio_with

BASE = 18446744073709551616
HALF = 9223372036854775808
# six powers stand behind the logarithm, and some bits are left free
BEHIND = 400
# logarithms of powers below HALF are told less exactly than to the last of these bits
CLOSE = 470


def dot(one, other):
    """The sum of the products of the items of two vectors."""
    return sum([own * item for own, item in zip(one, other)])


def key_of(ratio):
    """The key of a ratio."""
    powers = ratio.powers()
    packed = 0
    for power in powers[::-1]:
        packed = packed * BASE + power
    return (log_of(powers) << BEHIND) + packed


def ratio_at(key):
    """The ratio with a key."""
    powers = []
    for _ in PRIMES:
        power = (key + HALF) % BASE - HALF
        powers.append(power)
        key = (key - power) // BASE
    return ratio_with(powers)


def is_below(one, other):
    """Whether the ratio with one key is less than that with another key."""
    if one == other:
        return False
    far = (other - one) >> CLOSE
    if far in (0, -1):
        return is_length(ratio_at(other - one))
    return far > 0
