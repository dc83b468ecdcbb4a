"""Benches: named lines with what has been done to them, step by step, back and forth."""

from turnsleft.answers import answer
from turnsleft.deeds import behind_deeds, known, text_of
from turnsleft.errors import NoEntry, NotOnLine, UnknownName
from turnsleft.wedges import nothing
from turnsleft.words import is_name


class Bench:
    """A limit, and lines with their exchanges.

    An entry is a tuple of the deeds of a call, and the limit and the lines on its other side.
    """

    def __init__(self):
        self._limit = None
        self._lines = {}
        self._done = []
        self._undone = []
        self._busy = False

    @staticmethod
    def played(deeds):
        """A new bench that has done a list of deeds in one call."""
        bench = Bench()
        bench.do(*deeds)
        return bench

    def do(self, *deeds):
        """Do all deeds, or none of them."""
        limit, lines = _behind(self, deeds)
        if deeds:
            self._done.append((deeds, self._limit, self._lines))
            self._undone = []
            self._limit = limit
            self._lines = lines

    def tried(self, *deeds):
        """The text that the bench would have behind deeds."""
        limit, lines = _behind(self, deeds)
        return text_of(limit, lines)

    def undo(self):
        """Take the last entry back."""
        _step(self, self._done, self._undone)

    def redo(self):
        """Do the entry again that was taken back last."""
        _step(self, self._undone, self._done)

    def history(self):
        """The numbers of entries that can be undone and redone."""
        return len(self._done), len(self._undone)

    def journal(self):
        """The deeds of all entries that are done now."""
        return [deed for deeds, _, _ in self._done for deed in deeds]

    @property
    def limit(self):
        """The greatest number of turns that a line may owe, or None."""
        return self._limit

    @property
    def together(self):
        """The number of turns that the sum of the wedges of all lines owes."""
        whole = nothing()
        for name in self._lines:
            whole = whole + self._lines[name].wedge
        return whole.owed

    @property
    def busy(self):
        """Whether deeds are being done."""
        return self._busy

    def names(self):
        """The names of the lines, in order."""
        return list(self._lines)

    def exchange_of(self, name):
        """The exchange of a line."""
        return known(self._lines, name)

    def owed_by(self, name):
        """The number of turns that a line owes."""
        return known(self._lines, name).owed

    def same(self, one, other):
        """Whether the tops and tables of two lines are equal."""
        first = known(self._lines, one)
        second = known(self._lines, other)
        return first.top == second.top and first.wedge.pairs() == second.wedge.pairs()

    def text(self):
        """The limit and the lines as a text."""
        return text_of(self._limit, self._lines)

    def say(self, line):
        """The answer to a string."""
        try:
            return answer(self, line)
        except (UnknownName, NotOnLine, NoEntry) as error:
            return f"error {error.code}"

    def __call__(self, line):
        return self.say(line)

    def twin(self):
        """An independent bench in the same state, with its history."""
        bench = bench_with(self._limit, self._lines)
        bench._done = list(self._done)
        bench._undone = list(self._undone)
        return bench

    def __contains__(self, name):
        return is_name(name) and name in self._lines

    def __eq__(self, other):
        if not isinstance(other, Bench):
            return False
        return self._limit == other._limit and list(self._lines.items()) == list(other._lines.items())

    def __len__(self):
        return len(self._lines)

    def __bool__(self):
        # a bench without lines is a bench, too
        return True

    def __repr__(self):
        return f"Bench({len(self._lines)} lines)"


def bench_with(limit, lines):
    """A bench with a limit and lines, without history."""
    bench = Bench()
    bench._limit = limit
    bench._lines = lines
    return bench


def _behind(bench, deeds):
    """The limit and the lines that a bench has behind deeds."""
    bench._busy = True
    try:
        return behind_deeds(bench._limit, bench._lines, deeds)
    finally:
        bench._busy = False


def _step(bench, entries, others):
    """Go to the other side of the last one of some entries, and put it to the others."""
    if not entries:
        raise NoEntry()
    deeds, limit, lines = entries.pop()
    others.append((deeds, bench._limit, bench._lines))
    bench._limit = limit
    bench._lines = lines
