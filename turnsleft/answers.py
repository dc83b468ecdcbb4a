"""What a bench answers to strings of words."""

from turnsleft.roots import root_numbers
from turnsleft.words import read_tone, tone_text


def _spaced(words):
    """Some words with spaces between, `none` without any."""
    return " ".join(words) if words else "none"


def _yes(value):
    """The word for a truth value."""
    return "yes" if value else "no"


def _names(bench):
    """The names of the lines."""
    return _spaced(bench.names())


def _limit(bench):
    """The greatest number of turns that a line may owe."""
    return "none" if bench.limit is None else f"{bench.limit}"


def _together(bench):
    """The number of turns that the sum of all wedges owes."""
    return f"{bench.together}"


def _undo(bench):
    """The last entry is taken back."""
    bench.undo()
    return "done"


def _redo(bench):
    """The entry that was taken back last is done again."""
    bench.redo()
    return "done"


def _top(bench, name):
    """The top of a line."""
    return bench.exchange_of(name).top.text()


def _wedge(bench, name):
    """The wedge of a line."""
    return bench.exchange_of(name).wedge.text()


def _owed(bench, name):
    """The number of turns that a line owes."""
    return f"{bench.owed_by(name)}"


def _text(bench, name):
    """The exchange of a line."""
    return bench.exchange_of(name).text()


def _fair(bench, name):
    """Whether the exchange of a line is fair."""
    return _yes(bench.exchange_of(name).fair)


def _same(bench, one, other):
    """Whether two lines have one top and one table."""
    return _yes(bench.same(one, other))


def _sent(bench, name, word):
    """Where the exchange of a line leads a tone."""
    exchange = bench.exchange_of(name)
    # where the word is no text of a tone, None is no tone of the line
    return tone_text(exchange(read_tone(word)))


def _roots(bench, name):
    """The numbers of which the exchange of a line has roots."""
    exchange = bench.exchange_of(name)
    if exchange.fair:
        return "all"
    return " ".join([f"{k}" for k in root_numbers(exchange)])


# how many words a question has, and what answers it
WORDS = {
    "names": 1, "limit": 1, "together": 1, "undo": 1, "redo": 1, "top": 2, "wedge": 2, "owed": 2, "text": 2, "fair": 2,
    "roots": 2, "same": 3, "sent": 3,
}
ANSWERS = {
    "names": _names, "limit": _limit, "together": _together, "undo": _undo, "redo": _redo, "top": _top,
    "wedge": _wedge, "owed": _owed, "text": _text, "fair": _fair, "roots": _roots, "same": _same, "sent": _sent,
}


def answer(bench, line):
    """The answer of a bench to a string, if there is no error."""
    words = line.split(" ")
    word, *rest = words
    if word not in WORDS or len(words) != WORDS[word] or "" in words or "\n" in line:
        return "unknown"
    action = ANSWERS[word]
    return action(bench, *rest)
