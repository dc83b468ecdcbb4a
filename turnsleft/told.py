"""Told exchanges: what they make together with fair swaps, or with commutators."""

from turnsleft.errors import BadRow, OtherLine, Unmade
from turnsleft.exchanges import Exchange
from turnsleft.lattices import Lattice
from turnsleft.making import course_for
from turnsleft.moves import still
from turnsleft.pairing import paired_course
from turnsleft.ratios import PRIMES
from turnsleft.readings import Reading
from turnsleft.wedges import PAIRS


class Told:
    """Exchanges of one line that may be done and undone."""

    def __init__(self, *exchanges, commutators=False):
        if not exchanges:
            raise BadRow(0)
        for at, exchange in enumerate(exchanges):
            if not isinstance(exchange, Exchange):
                raise BadRow(at)
        if any([exchange.top != exchanges[0].top for exchange in exchanges]):
            raise OtherLine()
        self.top = exchanges[0].top
        self.commutators = commutators
        self._exchanges = list(exchanges)
        self._lattice = _lattice_of([exchange.wedge for exchange in exchanges], commutators)

    def exchanges(self):
        """The told exchanges."""
        return list(self._exchanges)

    def lattice(self):
        """The lattice of their tables, with commutators that of their numbers and bits."""
        return self._lattice

    def makes(self, exchange):
        """Whether they make an exchange."""
        return _vector_on(self, exchange) in self._lattice

    def counts_for(self, exchange):
        """How often each told exchange goes into an exchange."""
        found = self.bar(exchange)
        if found is not None:
            raise Unmade(found)
        return self._lattice.counts_for(_vector_on(self, exchange))[:len(self._exchanges)]

    def bar(self, exchange):
        """A reading that bars an exchange, None if it is made."""
        found = self._lattice.bar(_vector_on(self, exchange))
        return None if found is None else reading_of(found)

    def done(self, counts):
        """The told exchanges in order, each as often as counts say."""
        whole = still(self.top)
        for exchange, count in zip(self._exchanges, counts):
            whole = whole >> exchange.times(count)
        return whole

    def completed(self, exchange):
        """Counts, and a course behind the told exchanges done so often, which make an exchange."""
        counts = self.counts_for(exchange)
        left = ~self.done(counts) >> exchange
        return counts, paired_course(left) if self.commutators else course_for(left)

    def spare(self):
        """The indexes of the told exchanges that the other ones make."""
        return [at for at in self._lattice.spare() if at < len(self._exchanges)]

    def __eq__(self, other):
        if not isinstance(other, Told):
            return False
        return self.top == other.top and self.commutators == other.commutators and self._lattice == other._lattice

    def __len__(self):
        return len(self._exchanges)

    def __repr__(self):
        return f"Told({len(self._exchanges)} exchanges)"


def _vector_of(wedge, commutators):
    """The numbers of a wedge, with commutators its bits, too."""
    return [*wedge.pairs(), *wedge.bits()] if commutators else list(wedge.pairs())


def _vector_on(told, exchange):
    """The vector of an exchange that is to be made by told ones."""
    if exchange.top != told.top:
        raise OtherLine()
    return _vector_of(exchange.wedge, told.commutators)


def _lattice_of(wedges, commutators):
    """The lattice of some wedges."""
    vectors = [_vector_of(wedge, commutators) for wedge in wedges]
    if not commutators:
        return Lattice(len(PAIRS), *vectors)
    width = len(PAIRS) + len(PRIMES)
    for at in range(len(PAIRS), width):
        vectors.append([2 if at == other else 0 for other in range(width)])
    return Lattice(width, *vectors)


def reading_of(bar):
    """The reading that says the same as a bar against the vector of a wedge."""
    weights, modulus = bar
    # on each of the bits stands nothing or half of the modulus, as twice a bit is nothing
    bits = [1 if weight % modulus != 0 else 0 for weight in weights[len(PAIRS):]]
    return Reading(weights[:len(PAIRS)], bits=bits or [0] * len(PRIMES), modulus=modulus)
