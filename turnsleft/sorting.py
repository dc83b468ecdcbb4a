"""Exchanges sorted by their tables."""


def same_sort(e, f):
    """Whether two exchanges have equal tables."""
    return e.wedge.pairs() == f.wedge.pairs()


def sorts(exchanges):
    """The indexes of exchanges, those with one table together, in the order of their first ones."""
    found = {}
    for at, exchange in enumerate(exchanges):
        found.setdefault(exchange.wedge.pairs(), []).append(at)
    return list(found.values())
