"""Whole numbers that stand for ratios: the key of a product is the sum of the keys.

A key has the logarithm of the ratio ahead and its powers behind, so that keys are compared and added instead
of great numerators and denominators. Where two keys are next to each other, the powers decide.
"""

from turnsleft.ratios import PRIMES, is_length, ratio_with

# the logarithms of the primes, times ten to the 50th
LOGS = (
    69314718055994530941723212145817656807550013436025,
    109861228866810969139524523692252570464749055782274,
    160943791243410037460075933322618763952560135426851,
    194591014905531330510535274344317972963708472958186,
    239789527279837054406194357796512929982170685393741,
    256494935746153673605348744156531860480526794476020,
)

BASE = 18446744073709551616
HALF = 9223372036854775808
# six powers stand behind the logarithm, and some bits are left free
BEHIND = 400
# logarithms of powers below HALF are told less exactly than to the last of these bits
CLOSE = 470


def dot(one, other):
    """The sum of the products of the items of two vectors."""
    return sum([own * item for own, item in zip(one, other)])


def key_of(ratio):
    """The key of a ratio."""
    powers = ratio.powers()
    packed = 0
    for power in powers[::-1]:
        packed = packed * BASE + power
    return (dot(powers, LOGS) << BEHIND) + packed


def ratio_at(key):
    """The ratio with a key."""
    powers = []
    for _ in PRIMES:
        power = (key + HALF) % BASE - HALF
        powers.append(power)
        key = (key - power) // BASE
    return ratio_with(powers)


def is_below(one, other):
    """Whether the ratio with one key is less than that with another key."""
    if one == other:
        return False
    far = (other - one) >> CLOSE
    if far in (0, -1):
        return is_length(ratio_at(other - one))
    return far > 0
