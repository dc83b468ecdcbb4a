"""Papers: each one states something about exchanges, and carries what is needed to check it."""

from turnsleft.matrices import determinant
from turnsleft.ratios import PRIMES
from turnsleft.wedges import square_at


class Paper:
    """What is stated, with what is needed to check it."""


class FairPaper(Paper):
    """An exchange is made by a course."""

    def __init__(self, exchange, course):
        self.name = "fair"
        self.exchange = exchange
        self.course = course

    def fault(self):
        """The first fault, None if the paper holds."""
        found = _course_fault(self.exchange, self.course)
        if found is not None:
            return found
        return None if self.course.made() == self.exchange else "made"

    @property
    def holds(self):
        """Whether the paper has no fault."""
        return self.fault() is None


class UnfairPaper(Paper):
    """No fair swaps lead from an exchange to another one, as their tables differ at two primes."""

    def __init__(self, exchange, other, first, second):
        self.name = "unfair"
        self.exchange = exchange
        self.other = other
        self.first = first
        self.second = second

    def fault(self):
        """The first fault, None if the paper holds."""
        if self.exchange.top != self.other.top:
            return "line"
        if not _are_primes([self.first, self.second]):
            return "primes"
        places = [self.first, self.second]
        return "table" if square_at(self.exchange.wedge, places) == square_at(self.other.wedge, places) else None

    @property
    def holds(self):
        """Whether the paper has no fault."""
        return self.fault() is None


class TurnsPaper(Paper):
    """An exchange is a course, followed by turns, and no fewer turns are enough, because of an anchor."""

    def __init__(self, exchange, course, turns, primes):
        self.name = "turns"
        self.exchange = exchange
        self.course = course
        self.turns = tuple(turns)
        self.primes = tuple(primes)

    def fault(self):
        """The first fault, None if the paper holds."""
        found = _course_fault(self.exchange, self.course)
        if found is not None:
            return found
        if any([self.exchange.top.below(turn.end) for turn in self.turns]):
            return "turns"
        made = self.course.made()
        for turn in self.turns:
            made = made >> turn.on(made.top)
        if made != self.exchange:
            return "made"
        if len(self.primes) != 2 * len(self.turns):
            return "count"
        if not _are_primes(self.primes):
            return "primes"
        return "anchor" if determinant(square_at(self.exchange.wedge, self.primes)) == 0 else None

    @property
    def holds(self):
        """Whether the paper has no fault."""
        return self.fault() is None


class MadePaper(Paper):
    """Told exchanges make an exchange by counts."""

    def __init__(self, told, exchange, counts):
        self.name = "made"
        self.told = told
        self.exchange = exchange
        self.counts = tuple(counts)

    def fault(self):
        """The first fault, None if the paper holds."""
        if self.told.top != self.exchange.top:
            return "line"
        if len(self.counts) != len(self.told.exchanges()):
            return "count"
        left = self.exchange.wedge
        for count, exchange in zip(self.counts, self.told.exchanges()):
            left = left - exchange.wedge * count
        if not left.flat or self.told.commutators and any(left.bits()):
            return "sum"
        return None

    @property
    def holds(self):
        """Whether the paper has no fault."""
        return self.fault() is None


class BarredPaper(Paper):
    """Told exchanges do not make an exchange, because of a reading."""

    def __init__(self, told, exchange, reading):
        self.name = "barred"
        self.told = told
        self.exchange = exchange
        self.reading = reading

    def fault(self):
        """The first fault, None if the paper holds."""
        if self.told.top != self.exchange.top:
            return "line"
        if self.reading.modulus == 0 or any(self.reading.bits()) and not self.told.commutators:
            return "bits"
        if any([self.reading.value_of(exchange) != 0 for exchange in self.told.exchanges()]):
            return "told"
        return "value" if self.reading.value_of(self.exchange) == 0 else None

    @property
    def holds(self):
        """Whether the paper has no fault."""
        return self.fault() is None


class RootPaper(Paper):
    """An exchange, done many times and then a course, is another exchange."""

    def __init__(self, exchange, many, root, course):
        self.name = "root"
        self.exchange = exchange
        self.many = many
        self.root = root
        self.course = course

    def fault(self):
        """The first fault, None if the paper holds."""
        if self.root.top != self.exchange.top:
            return "line"
        found = _course_fault(self.exchange, self.course)
        if found is not None:
            return found
        return None if self.root.times(self.many) >> self.course.made() == self.exchange else "made"

    @property
    def holds(self):
        """Whether the paper has no fault."""
        return self.fault() is None


def _course_fault(exchange, course):
    """The fault of a course that is not on the line of an exchange or does not keep, None without one."""
    if course.top != exchange.top:
        return "line"
    return None if course.keeps else "keeps"


def _are_primes(values):
    """Whether numbers are different primes in ascending order."""
    if any([value not in PRIMES for value in values]):
        return False
    return all([value < above for value, above in zip(values, values[1:])])
