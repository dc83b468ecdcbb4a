"""Readings: numbers, or remainders, that add up where exchanges are done one after another."""

from turnsleft.errors import BadReading
from turnsleft.keys import dot
from turnsleft.ratios import PRIMES
from turnsleft.wedges import PAIRS
from turnsleft.words import are_bits, are_numbers, is_number


class Reading:
    """Weights of the numbers and bits of wedges, and a modulus."""

    def __init__(self, weights, *, bits=(0, 0, 0, 0, 0, 0), modulus=0):
        if not are_numbers(weights, len(PAIRS)) or not are_bits(bits, len(PRIMES)):
            raise BadReading()
        if not is_number(modulus) or modulus < 0 or modulus == 1:
            raise BadReading()
        if any(bits) and (modulus == 0 or modulus % 2 == 1):
            raise BadReading()
        self._weights = tuple(weights)
        self._bits = tuple(bits)
        self.modulus = modulus

    def weights(self):
        """The weights of the fifteen numbers."""
        return self._weights

    def bits(self):
        """The weights of the six bits."""
        return self._bits

    def __call__(self, wedge):
        return _value_on(self, wedge)

    def value_of(self, exchange):
        """The value of the wedge of an exchange."""
        return _value_on(self, exchange.wedge)

    def __add__(self, other):
        if self.modulus != other.modulus:
            raise BadReading()
        weights = [one + two for one, two in zip(self._weights, other._weights)]
        bits = [(one + two) % 2 for one, two in zip(self._bits, other._bits)]
        return Reading(weights, bits=bits, modulus=self.modulus)

    def __eq__(self, other):
        if not isinstance(other, Reading):
            return False
        return self._weights == other._weights and self._bits == other._bits and self.modulus == other.modulus

    def __repr__(self):
        return f"Reading(modulus {self.modulus})"


def _value_on(reading, wedge):
    """The value of a wedge."""
    value = dot(reading._weights, wedge.pairs()) + reading.modulus // 2 * dot(reading._bits, wedge.bits())
    return value if reading.modulus == 0 else value % reading.modulus
