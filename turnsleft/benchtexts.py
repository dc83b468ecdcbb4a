"""Texts of benches, written and read."""

from turnsleft.bench import bench_with
from turnsleft.deeds import MOST_LINES, owes_more
from turnsleft.errors import BadLine, BadText
from turnsleft.exchanges import Exchange
from turnsleft.words import is_name

LIMITS = ("none", "0", "1", "2", "3")


def write_bench(bench):
    """The text of a bench."""
    return bench.text()


def read_bench(text):
    """The bench with a text, without history."""
    if not isinstance(text, str):
        raise BadLine(0)
    # what stands behind the last line feed is the last row; nothing may stand there
    rows = text.split("\n")
    word, _, told = rows[0].partition(" ")
    if word != "limit" or told not in LIMITS:
        raise BadLine(0)
    limit = None if told == "none" else int(told)
    lines = {}
    for at in range(1, len(rows) - 1):
        name, exchange = _read_line(rows[at], at)
        if name in lines or len(lines) == MOST_LINES or owes_more(exchange, limit):
            raise BadLine(at)
        lines[name] = exchange
    if rows[-1] != "":
        raise BadLine(len(rows) - 1)
    return bench_with(limit, lines)


def _read_line(row, line):
    """The name and the exchange that a line of the text tells."""
    name, _, told = row.partition(" ")
    if not is_name(name):
        raise BadLine(line)
    try:
        return name, Exchange.read(told)
    except BadText:
        raise BadLine(line) from None
