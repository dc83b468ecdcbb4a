"""Names, numbers and bits of any values, and tones with their texts."""

from math import gcd

LETTERS = "abcdefghijklmnopqrstuvwxyz"
DIGITS = "0123456789"
MOST_LETTERS = 6
MOST_DIGITS = 2000


def is_name(value):
    """Whether any value is a string of 1 to 6 lowercase letters."""
    if not isinstance(value, str) or not 1 <= len(value) <= MOST_LETTERS:
        return False
    return all([letter in LETTERS for letter in value])


def is_number(value):
    """Whether any value is an integer; True and False are none."""
    return isinstance(value, int) and not isinstance(value, bool)


def is_listed(value):
    """Whether any value is a list or a tuple."""
    return isinstance(value, (list, tuple))


def are_numbers(value, many):
    """Whether any value is a list or tuple of so many numbers."""
    if not is_listed(value) or len(value) != many:
        return False
    return all([is_number(item) for item in value])


def are_bits(value, many):
    """Whether any value is a list or tuple of so many numbers 0 or 1."""
    return are_numbers(value, many) and all([item in (0, 1) for item in value])


def is_tone(value):
    """Whether any value is a tuple of two numbers from 1 on without a common divisor."""
    if not isinstance(value, tuple) or not are_numbers(value, 2):
        return False
    over, under = value
    return over >= 1 and under >= 1 and gcd(over, under) == 1


def tone_of(over, under):
    """The tone with the value of a fraction of two numbers from 1 on."""
    shared = gcd(over, under)
    return (over // shared, under // shared)


def tone_text(tone):
    """The text of a tone."""
    over, under = tone
    return f"{over}" if under == 1 else f"{over}/{under}"


def _read_number(text):
    """The number from 1 on that a text tells without leading zeros, None for any other text."""
    if not 1 <= len(text) <= MOST_DIGITS or text[0] == "0":
        return None
    if not all([digit in DIGITS for digit in text]):
        return None
    return int(text)


def read_tone(text):
    """The tone with a text, None for any value that is no text of a tone."""
    if not isinstance(text, str):
        return None
    head, slash, tail = text.partition("/")
    over = _read_number(head)
    if over is None:
        return None
    if slash == "":
        return (over, 1)
    under = _read_number(tail)
    if under is None or under == 1 or gcd(over, under) != 1:
        return None
    return (over, under)
