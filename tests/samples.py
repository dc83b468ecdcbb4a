"""Values for the tests: many kinds of wrong values, ratios, lengths and exchanges, and plain ways to check."""

from fractions import Fraction

from turnsleft.courses import Course
from turnsleft.errors import BadRow
from turnsleft.exchanges import Exchange
from turnsleft.moves import Swap, Turn, arranged, fold
from turnsleft.ratios import Ratio, multiplied
from turnsleft.wedges import Wedge

ONE = Ratio(1)
TWO = Ratio(2)
PRIMES = (2, 3, 5, 7, 11, 13)

# intervals of scales; most lists of them are bound
INTERVALS = [
    Ratio(over, under)
    for over, under in [
        (9, 8), (10, 9), (16, 15), (25, 24), (3, 2), (4, 3), (5, 4), (6, 5), (7, 6), (8, 7), (11, 10), (13, 12),
        (81, 80), (256, 243), (2, 1), (15, 14), (7, 5), (27, 25),
    ]
]


def any_values():
    """Values of all kinds: none of them is a number above 1, a pair of numbers or a list of numbers."""
    plain = [None, True, False, 0, -1, 1, "", "a", "9/8", "2: 1 2 1", (), [], (2,), [2], (True, 2), (2, True)]
    objects = [
        Ratio(9, 8), Wedge([0] * 15), Turn(ONE, Ratio(3, 2), TWO), Swap(ONE, TWO, Ratio(3, 2)), fold(TWO, Ratio(3, 2)),
        Course(TWO, []), (Ratio(9, 8),), [Ratio(9, 8)], (TWO, None), ((((("a",),),),),), [[[[[None]]]]],
        (ONE, TWO, ONE), [(ONE, TWO, ONE)], BadRow(1).code,
    ]
    return plain + objects


def fraction(ratio):
    """The value of a ratio or a tone."""
    if isinstance(ratio, tuple):
        return Fraction(ratio[0], ratio[1])
    return Fraction(ratio.over, ratio.under)


def tone(value):
    """The tone with the value of a fraction."""
    return (value.numerator, value.denominator)


def some_ratio(rng, most=3):
    """A ratio with powers up to a number."""
    return Ratio.of_powers([rng.randint(-most, most) for _ in PRIMES])


def some_length(rng, most=3):
    """A length with powers up to a number."""
    ratio = some_ratio(rng, most)
    while ratio == ONE:
        ratio = some_ratio(rng, most)
    return ONE // ratio if ratio.below(ONE) else ratio


def some_lengths(rng, many):
    """So many intervals."""
    return [rng.choice(INTERVALS) for _ in range(many)]


def shuffled(rng, many):
    """The indexes of a list in some order."""
    order = list(range(many))
    rng.shuffle(order)
    return order


def some_exchange(rng, many=5):
    """An exchange of some line."""
    return arranged(some_lengths(rng, many), shuffled(rng, many))


def some_pair(rng, many=5):
    """Two exchanges of one line."""
    lengths = some_lengths(rng, many)
    one = arranged(lengths, shuffled(rng, many))
    rng.shuffle(lengths)
    return one, arranged(lengths, shuffled(rng, many))


def some_tones(rng, top, many=8):
    """Tones of a line, its lowest one among them."""
    high = fraction(top)
    tones = [(1, 1)]
    for _ in range(many):
        tones.append(tone(1 + (high - 1) * Fraction(rng.randint(0, 9999), 10000)))
    return tones


def edge_tones(exchange):
    """The tones at the starts of the rows of an exchange, and some just below their ends."""
    tones = []
    for start, length, _ in exchange.rows():
        tones.append(start.as_tone())
        end = fraction(start * length)
        tones.append(tone(end - (end - fraction(start)) / 10**9))
    return tones


def image_by_rows(rows, value):
    """Where rows lead a tone, told by fractions alone."""
    for start, length, factor in rows:
        if fraction(start) <= fraction(value) < fraction(start) * fraction(length):
            return tone(fraction(value) * fraction(factor))
    return None


def cut_rows(rng, rows):
    """Rows cut at some places, in another order."""
    cut = []
    for start, length, factor in rows:
        part = rng.choice([ratio for ratio in INTERVALS if ratio.below(length)] or [None])
        if part is None:
            cut.append((start, length, factor))
        else:
            cut.append((start, part, factor))
            cut.append((start * part, length // part, factor))
    rng.shuffle(cut)
    return cut


def some_swap(rng, top):
    """A swap whose end is at most a top, which is 2 at the least."""
    while True:
        length = rng.choice(INTERVALS)
        first = multiplied(some_lengths(rng, rng.randint(0, 3)))
        second = first * length * multiplied(some_lengths(rng, rng.randint(0, 2)))
        if not top.below(second * length):
            return Swap(first, second, length)


def is_exchange_of(exchange, top):
    """Whether the rows of an exchange are ascending and joined and fill a line, and so do the images."""
    rows = exchange.rows()
    places = [(start, length) for start, length, _ in rows]
    images = [(start * factor, length) for start, length, factor in rows]
    for stretches in (places, sorted(images, key=lambda stretch: fraction(stretch[0]))):
        end = ONE
        for start, length in stretches:
            if start != end:
                return False
            end = start * length
        if end != top:
            return False
    factors = [factor for _, _, factor in rows]
    joined = all(one != two for one, two in zip(factors, factors[1:]))
    return joined and isinstance(exchange, Exchange) and exchange.top == top
