"""Three lengths turned about, which a window shows of a fold."""

from turnsleft.errors import BadLength
from turnsleft.moves import arranged, fold
from turnsleft.ratios import is_length


def three_turned(a, b, c):
    """The pair of three lengths arranged from the last one to the first one, and the fold that shows this."""
    for at, length in enumerate((a, b, c)):
        if not is_length(length):
            raise BadLength(at)
    return arranged([a, b, c], [2, 1, 0]), fold(a * b * b * c, b * c)
