"""Orders of letters put home by exchanging neighbours."""

from turnsleft.errors import BadOrder
from turnsleft.moves import is_order


def steps_home(order):
    """The places k at which exchanging the items k and k + 1, one after another, puts an order home."""
    if not is_order(order):
        raise BadOrder()
    left = list(order)
    steps = []
    for end in range(1, len(left)):
        at = end
        while at > 0 and left[at - 1] > left[at]:
            left[at - 1], left[at] = left[at], left[at - 1]
            steps.append(at - 1)
            at -= 1
    return steps
