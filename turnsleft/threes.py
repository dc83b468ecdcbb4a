"""Three lengths turned about, which a window shows of a fold."""

from turnsleft.moves import arranged, fold


def three_turned(a, b, c):
    """The pair of three lengths arranged from the last one to the first one, and the fold that shows this."""
    turned = arranged([a, b, c], [2, 1, 0])
    return turned, fold(a * b * b * c, b * c)
