"""Tones beside ratios and stretches."""

from turnsleft.words import tone_of


def led(tone, ratio):
    """The tone multiplied by a ratio."""
    return tone_of(tone[0] * ratio.over, tone[1] * ratio.under)


def compared(tone, ratio):
    """-1, 0 or 1 if the tone is below, equal to or above the ratio."""
    own = tone[0] * ratio.under
    other = tone[1] * ratio.over
    if own < other:
        return -1
    return 1 if own > other else 0


def within(tone, start, length):
    """Whether a tone is one of the stretch."""
    return compared(tone, start) >= 0 and compared(tone, start * length) < 0
