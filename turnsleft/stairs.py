"""The staircase of whole vectors: the one list of its form that has the same whole sums."""


def lead_of(vector):
    """The index of the first item that is not 0, None if all are 0."""
    for at, item in enumerate(vector):
        if item != 0:
            return at
    return None


def nearest(number, divisor):
    """The whole number next to a fraction; of two that are as near, the one next to 0."""
    if divisor < 0:
        return nearest(-number, -divisor)
    if number < 0:
        return -nearest(-number, divisor)
    return (2 * number + divisor - 1) // (2 * divisor)


def less(vector, times, row):
    """A vector without so many times a row."""
    return [own - times * item for own, item in zip(vector, row)]


def _divided(row, vector, lead):
    """Two vectors with the same sums as two with one lead, of which only the first keeps it."""
    while vector[lead] != 0:
        rest = less(row, row[lead] // vector[lead], vector)
        row = vector
        vector = rest
    return row, vector


def _with_vector(stairs, vector):
    """The rows of a staircase with one more vector, still with negative leads and great items."""
    rows = []
    for row in stairs:
        lead = lead_of(row)
        own = lead_of(vector)
        if own is None or lead < own:
            rows.append(row)
        elif own < lead:
            rows.append(vector)
            vector = row
        else:
            row, vector = _divided(row, vector, lead)
            rows.append(row)
    if any(vector):
        rows.append(vector)
    return rows


def _settled(rows):
    """The rows of a staircase with leads above 0 and small items above each lead."""
    settled = []
    for row in rows:
        lead = lead_of(row)
        if row[lead] < 0:
            row = [-item for item in row]
        settled = [less(upper, upper[lead] // row[lead], row) for upper in settled]
        settled = settled + [row]
    return settled


def counts_on(stairs, vector):
    """How often each vector of a staircase goes into a sum of them, None for any other vector."""
    counts = []
    for row in stairs:
        lead = lead_of(row)
        times = vector[lead] // row[lead]
        counts.append(times)
        vector = less(vector, times, row)
    return None if any(vector) else counts


def staircase_of(vectors):
    """The staircase of some vectors of one width, as a list of lists."""
    stairs = []
    for vector in vectors:
        if counts_on(stairs, vector) is None:
            stairs = _settled(_with_vector(stairs, list(vector)))
    return stairs


def needed_ones(vectors):
    """The ascending indexes of the vectors that are no sums of whole multiples of the earlier ones."""
    stairs = []
    needed = []
    for at, vector in enumerate(vectors):
        if counts_on(stairs, vector) is None:
            stairs = _settled(_with_vector(stairs, list(vector)))
            needed.append(at)
    return needed


def traced_stairs(vectors, width):
    """The staircase of vectors, and a base of all relations between them.

    Behind the items of each row of the staircase stands how often each vector goes into it. A relation says
    how often each vector goes into a sum of them that is 0.
    """
    many = len(vectors)
    stairs = []
    relations = []
    for at, vector in enumerate(vectors):
        traced = [*vector, *[1 if at == other else 0 for other in range(many)]]
        rows = _settled(_with_vector(stairs, traced))
        stairs = [row for row in rows if lead_of(row) < width]
        relations.extend([row[width:] for row in rows if lead_of(row) >= width])
    return stairs, relations
