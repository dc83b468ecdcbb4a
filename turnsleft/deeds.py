"""Deeds of a bench: what each one makes of the limit and the lines, and what is wrong with it.

The lines are a dict from names to exchanges, in the order in which they were laid. It is never changed: each
deed gives a new one.
"""

from turnsleft.errors import (
    BadDeed, BadExchange, BadLimit, BadName, BadTop, Double, OwesMore, TooMany, UnknownName,
)
from turnsleft.exchanges import Exchange
from turnsleft.moves import Swap, Turn, fold, still
from turnsleft.ratios import is_length
from turnsleft.words import is_name, is_number

MOST_LINES = 6
MOST_OWED = 3


def known(lines, name):
    """The exchange of the line with a name."""
    if not is_name(name) or name not in lines:
        raise UnknownName(name)
    return lines[name]


def _line(limit, lines, name, top):
    """A line is laid behind the others."""
    if not is_name(name):
        raise BadName(name)
    if name in lines:
        raise Double(name)
    if not is_length(top):
        raise BadTop()
    if len(lines) == MOST_LINES:
        raise TooMany(MOST_LINES)
    return limit, {**lines, name: still(top)}


def _drop(limit, lines, name):
    """A line is taken away."""
    known(lines, name)
    return limit, {own: lines[own] for own in lines if own != name}


def owes_more(exchange, limit):
    """Whether an exchange owes more turns than a limit."""
    return limit is not None and exchange.owed > limit


def _behind(limit, lines, name, exchange):
    """An exchange is done behind what has been done with a line."""
    whole = lines[name] >> exchange
    if owes_more(whole, limit):
        raise OwesMore(name)
    return limit, {**lines, name: whole}


def _swap(limit, lines, name, first, second, length):
    """A swap is done."""
    top = known(lines, name).top
    return _behind(limit, lines, name, Swap(first, second, length).on(top))


def _turn(limit, lines, name, start, first, second):
    """A turn is done."""
    top = known(lines, name).top
    return _behind(limit, lines, name, Turn(start, first, second).on(top))


def _fold(limit, lines, name, by):
    """A fold is done."""
    top = known(lines, name).top
    return _behind(limit, lines, name, fold(top, by))


def _do(limit, lines, name, exchange):
    """An exchange is done."""
    known(lines, name)
    if not isinstance(exchange, Exchange):
        raise BadExchange()
    return _behind(limit, lines, name, exchange)


def _home(limit, lines, name):
    """All that has been done with a line is taken away."""
    return limit, {**lines, name: still(known(lines, name).top)}


def is_limit(value):
    """Whether any value is a limit."""
    return value is None or is_number(value) and 0 <= value <= MOST_OWED


def _limit(_, lines, value):
    """The limit is set."""
    if not is_limit(value):
        raise BadLimit(value)
    for name in lines:
        if owes_more(lines[name], value):
            raise OwesMore(name)
    return value, lines


# how many items a deed has, and what does it
ITEMS = {"line": 3, "drop": 2, "swap": 5, "turn": 5, "fold": 3, "do": 3, "home": 2, "limit": 2}
ACTIONS = {
    "line": _line, "drop": _drop, "swap": _swap, "turn": _turn, "fold": _fold, "do": _do, "home": _home,
    "limit": _limit,
}


def _is_deed(value):
    """Whether any value is a tuple with the word of a deed and as many items as this deed has."""
    if not isinstance(value, tuple) or not value or not isinstance(value[0], str):
        return False
    return value[0] in ITEMS and len(value) == ITEMS[value[0]]


def behind_deeds(limit, lines, deeds):
    """The limit and the lines behind some deeds, one after another."""
    for at, deed in enumerate(deeds):
        if not _is_deed(deed):
            raise BadDeed(at)
    for word, *rest in deeds:
        action = ACTIONS[word]
        limit, lines = action(limit, lines, *rest)
    return limit, lines


def text_of(limit, lines):
    """The text of a bench with a limit and lines."""
    told = "none" if limit is None else f"{limit}"
    rows = [f"limit {told}\n"]
    for name in lines:
        rows.append(f"{name} {lines[name].text()}\n")
    return "".join(rows)
