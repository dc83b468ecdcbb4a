"""What is owed while exchanges are done one after another."""

from turnsleft.errors import OtherLine
from turnsleft.wedges import nothing


def owed_after(*exchanges):
    """The numbers of turns that are owed behind each exchange."""
    if any([exchange.top != exchanges[0].top for exchange in exchanges]):
        raise OtherLine()
    whole = nothing()
    for exchange in exchanges:
        whole = whole + exchange.wedge
        yield whole.owed
