"""Ratios: fractions above 0 that are made of the primes up to 13 alone."""

from math import gcd, lcm

from turnsleft.errors import BadRatio, BadText
from turnsleft.logs import SLACK, log_of
from turnsleft.words import are_numbers, is_number, read_tone, tone_text

PRIMES = (2, 3, 5, 7, 11, 13)
MOST_POWER = 9999
MANY = 500
NO_POWERS = (0, 0, 0, 0, 0, 0)


class Ratio:
    """A ratio in lowest terms, with its powers of the six primes."""

    def __init__(self, over, under=1):
        if not is_number(over) or not is_number(under) or over < 1 or under < 1:
            raise BadRatio()
        shared = gcd(over, under)
        self.over = over // shared
        self.under = under // shared
        self._powers = _powers_of(self.over, self.under)

    @staticmethod
    def of_powers(powers):
        """The ratio with these powers."""
        if not are_numbers(powers, len(PRIMES)):
            raise BadRatio()
        if not all([abs(power) <= MOST_POWER for power in powers]):
            raise BadRatio()
        return ratio_with(powers)

    @staticmethod
    def read(text):
        """The ratio with a text."""
        tone = read_tone(text)
        if tone is None:
            raise BadText()
        try:
            return Ratio(tone[0], tone[1])
        except BadRatio:
            raise BadText() from None

    def powers(self):
        """How often each prime goes into the ratio."""
        return self._powers

    def bits(self):
        """The powers modulo 2."""
        return tuple([power % 2 for power in self._powers])

    def power(self, k):
        """The ratio taken k times as a factor."""
        return ratio_with([k * power for power in self._powers])

    def below(self, other):
        """Whether it is less than another ratio."""
        if self.over.bit_length() + other.over.bit_length() > MANY:
            # great products are made only where the logarithms are too near to one another
            more = log_of(other._powers) - log_of(self._powers)
            if abs(more) > SLACK or self._powers == other._powers:
                return more > 0
        return self.over * other.under < other.over * self.under

    def as_tone(self):
        """The tone with its value."""
        return (self.over, self.under)

    def text(self):
        """The numerator, and the denominator behind a slash if it is not 1."""
        return tone_text((self.over, self.under))

    def __mul__(self, other):
        return ratio_with([one + two for one, two in zip(self._powers, other._powers)])

    def __floordiv__(self, other):
        return ratio_with([one - two for one, two in zip(self._powers, other._powers)])

    def __eq__(self, other):
        return isinstance(other, Ratio) and self.over == other.over and self.under == other.under

    def __str__(self):
        return f"{self.text()}"

    def __repr__(self):
        return f"Ratio({self.text()})"


def _raised(base, exponent):
    """A number taken as a factor as often as an exponent from 0 on says."""
    raised = 1
    while exponent > 0:
        if exponent % 2 == 1:
            raised = raised * base
        exponent = exponent // 2
        # the last square would be the greatest number of all, and nobody needs it
        if exponent > 0:
            base = base * base
    return raised


def _made_of(powers):
    """The product of the primes, each as often as great powers from 0 on say."""
    number = 1
    # the number is squared once for all primes together, and 2 needs no multiplication at all
    for at in reversed(range(max(powers).bit_length())):
        number = number * number
        for prime, power in zip(PRIMES[1:], powers[1:]):
            if (power >> at) % 2 == 1:
                number = number * prime
    return number << powers[0]


def _fraction_of(powers):
    """The numerator and the denominator in lowest terms, from the powers."""
    if max(powers) > MANY or min(powers) < -MANY:
        return _made_of([max(0, power) for power in powers]), _made_of([max(0, -power) for power in powers])
    over = 1
    under = 1
    for prime, power in zip(PRIMES, powers):
        if power > 0:
            over = over * _raised(prime, power)
        elif power < 0:
            under = under * _raised(prime, -power)
    return over, under


def ratio_with(powers):
    """The ratio with these powers, however great they are."""
    # the powers are known, so they need not be sought in the numbers
    over, under = _fraction_of(powers)
    ratio = Ratio(1)
    ratio.over = over
    ratio.under = under
    ratio._powers = tuple(powers)
    return ratio


def _split(number, divisor):
    """How often a divisor goes into a number, and what is left of it."""
    many = 0
    rest, remainder = divmod(number, divisor)
    while remainder == 0:
        number = rest
        many += 1
        rest, remainder = divmod(number, divisor)
    return many, number


def _powers_in(number):
    """How often each of the six primes goes into a number that has no other prime."""
    powers = [0] * len(PRIMES)
    for at, prime in enumerate(PRIMES):
        if number == 1:
            return powers
        # numbers of thousands of digits come down sooner in steps of 64
        many, number = _split(number, prime ** 64)
        few, number = _split(number, prime)
        powers[at] = 64 * many + few
    if number != 1:
        raise BadRatio()
    return powers


def _powers_of(over, under):
    """The powers of a fraction in lowest terms."""
    if over == 1 and under == 1:
        return NO_POWERS
    return tuple([up - down for up, down in zip(_powers_in(over), _powers_in(under))])


def is_ratio(value):
    """Whether any value is a ratio."""
    return isinstance(value, Ratio)


def is_length(value):
    """Whether any value is a ratio above 1."""
    return isinstance(value, Ratio) and value.over > value.under


def multiplied(ratios):
    """The product of a list of ratios, 1 for the empty one."""
    powers = [0] * len(PRIMES)
    for ratio in ratios:
        powers = [own + power for own, power in zip(powers, ratio.powers())]
    return ratio_with(powers)


def _exact_order(ratios):
    """The indexes of a list of ratios in ascending order, told by their numerators over a common denominator."""
    shared = 1
    for ratio in ratios:
        shared = lcm(shared, ratio.under)
    keyed = [(ratio.over * (shared // ratio.under), at) for at, ratio in enumerate(ratios)]
    return [at for _, at in sorted(keyed)]


def order_of(ratios):
    """The indexes of a list of ratios, in the ascending order of the ratios."""
    logs = [log_of(ratio.powers()) for ratio in ratios]
    keyed = sorted([(log, at) for at, log in enumerate(logs)])
    order = [at for _, at in keyed]
    for at, above in zip(order, order[1:]):
        if logs[above] - logs[at] <= SLACK and ratios[at] != ratios[above]:
            return _exact_order(ratios)
    return order


def in_order(ratios):
    """The ascending list of the different ratios of a list."""
    found = []
    for at in order_of(ratios):
        if not found or found[-1] != ratios[at]:
            found.append(ratios[at])
    return found
