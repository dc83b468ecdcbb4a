"""Roots of exchanges: what is to be done several times, and then a course, to make an exchange."""

from turnsleft.errors import BadNumber, NoRoot
from turnsleft.making import course_between
from turnsleft.moves import apart_on
from turnsleft.placing import turns_for
from turnsleft.ratios import PRIMES, Ratio
from turnsleft.wedges import PAIRS, Wedge
from turnsleft.words import is_number


def root(exchange, k):
    """A pair (f, course): f done k times, and then what the course makes, is an exchange."""
    if not is_number(k) or k < 1:
        raise BadNumber(k)
    table = exchange.wedge.pairs()
    for (p, q), number in zip(PAIRS, table):
        if number % k != 0:
            raise NoRoot(PRIMES[p], PRIMES[q])
    part = Wedge([number // k for number in table])
    # turns that stand apart have two rows each, however often they are done
    found = apart_on(exchange.top, turns_for(part, low=Ratio(1), high=exchange.top))
    return found, course_between(found.times(k), exchange)


def _with_factor(divisors, prime):
    """Divisors of a number, and those of so many times the number for a prime."""
    more = [prime * divisor for divisor in divisors]
    return [*divisors, *[divisor for divisor in more if divisor not in divisors]]


def _divisors_of(number):
    """The ascending list of the numbers that divide a number from 1 on."""
    divisors = [1]
    factor = 2
    while factor * factor <= number:
        while number % factor == 0:
            divisors = _with_factor(divisors, factor)
            number = number // factor
        factor += 1
    return sorted(_with_factor(divisors, number) if number > 1 else divisors)


def root_numbers(exchange):
    """The numbers k for which an exchange has a k-th root, none if each number is one."""
    content = exchange.wedge.content
    return [] if content == 0 else _divisors_of(content)
