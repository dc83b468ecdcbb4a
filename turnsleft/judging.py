"""Papers looked at, one after another."""


def look(*papers):
    """The names and faults of papers."""
    for paper in papers:
        yield (paper.name, paper.fault())


def first_fault(*papers):
    """The index and the fault of the first paper that has one, None without one."""
    for at, paper in enumerate(papers):
        fault = paper.fault()
        if fault is not None:
            return at, fault
    return None
