"""Scales: steps in an order, their modes, and the exchanges that lead one scale to another."""

from itertools import combinations

from turnsleft.errors import BadLength, BadNumber, OtherSteps
from turnsleft.moves import arranged, starts_along
from turnsleft.ratios import in_order, is_length, multiplied
from turnsleft.words import is_number

MOST_STEPS = 24


class Scale:
    """One to twenty-four steps."""

    def __init__(self, *steps):
        if not steps:
            raise BadLength(0)
        for at, step in enumerate(steps):
            if not is_length(step) or at == MOST_STEPS:
                raise BadLength(at)
        self.top = multiplied(steps)
        self._steps = list(steps)

    def steps(self):
        """The steps, in order."""
        return list(self._steps)

    def beginnings(self):
        """The ratios at which the steps begin."""
        return starts_along(self._steps)

    def mode(self, k):
        """The scale with the steps from the k-th on, and then those ahead of it."""
        if not is_number(k) or not 0 <= k < len(self._steps):
            raise BadNumber(k)
        steps = self._steps[k:] + self._steps[:k]
        return Scale(*steps)

    def led_to(self, other):
        """The exchange that lays the steps in the order of another scale."""
        _check_same(self._steps, other.steps())
        places = {}
        for at, step in enumerate(self._steps):
            places.setdefault(step.as_tone(), []).append(at)
        order = []
        for step in other.steps():
            found = places[step.as_tone()]
            order.append(found[0])
            places[step.as_tone()] = found[1:]
        return arranged(self._steps, order)

    def crossings(self, other):
        """The pairs of different steps with their crossings, without those that are 0."""
        _check_same(self._steps, other.steps())
        steps = in_order(self._steps)
        found = []
        for u, v in combinations(steps, 2):
            crossing = _many_ahead(self._steps, u, v) - _many_ahead(other.steps(), u, v)
            if crossing != 0:
                found.append((u, v, crossing))
        return found

    def __eq__(self, other):
        return isinstance(other, Scale) and self._steps == other._steps

    def __len__(self):
        return len(self._steps)

    def __repr__(self):
        return f"Scale({len(self._steps)} steps)"


def _check_same(steps, others):
    """Raise OtherSteps unless two lists have the same steps, each as often."""
    if sorted([step.as_tone() for step in steps]) != sorted([step.as_tone() for step in others]):
        raise OtherSteps()


def _many_ahead(steps, u, v):
    """The number of pairs of a step u and a later step v."""
    many = 0
    before = 0
    for step in steps:
        if step == u:
            before += 1
        elif step == v:
            many = many + before
    return many
