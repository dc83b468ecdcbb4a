"""Courses that make fair exchanges, and courses between two exchanges.

At first, from the end of the course, swaps are taken that leave fewer pieces. The lengths that still move are
written as words of atoms, with equal atoms side by side. The words at home are woven into the words of the laid
order; then each piece is led to its place among equal letters.
"""

from turnsleft.atoms import atom_counts
from turnsleft.courses import course_with, swaps_at
from turnsleft.errors import NotFair, OtherLine
from turnsleft.keys import dot, key_of, ratio_at
from turnsleft.peeling import peeled
from turnsleft.pieces import settling_swaps, swapped
from turnsleft.ratios import PRIMES, order_of
from turnsleft.weaving import bank_totals, weaving_steps
from turnsleft.wedges import PAIRS


def check_fair(wedge):
    """Raise NotFair with the least pair of primes whose number is not 0."""
    for (p, q), number in zip(PAIRS, wedge.pairs()):
        if number != 0:
            raise NotFair(PRIMES[p], PRIMES[q])


def _blocks_of(laid):
    """The least ranges of rows that are laid among themselves, in their laid order, without single rows."""
    blocks = []
    first = 0
    highest = 0
    for at, row in enumerate(laid):
        highest = max(highest, row)
        if highest == at:
            if at > first:
                blocks.append(laid[first:at + 1])
            first = at + 1
    return blocks


def _spelt(rows, blocks):
    """Atoms of the rows of blocks, and for each block the counts of atoms of its rows at home and laid."""
    moved = [row for block in blocks for row in block]
    atoms, told = atom_counts([ratio_at(rows[row][1]) for row in moved])
    counts = dict(zip(moved, told))
    return atoms, [([counts[row] for row in sorted(block)], [counts[row] for row in block]) for block in blocks]


def _woven(rows, laid, top):
    """The room and the swaps (first, second, length) for rows (home, length, image) and their laid order.

    All of them are keys, and the rows are ascending.
    """
    blocks = _blocks_of(laid)
    atoms, words = _spelt(rows, blocks)
    keys = [key_of(atom) for atom in atoms]
    starts = [rows[min(block)][0] for block in blocks]
    room = top
    for bank in bank_totals(words, len(atoms)):
        starts.append(room)
        room = room + dot(bank, keys)
    swaps = []
    for one, ahead, other, place, size in weaving_steps(words, len(atoms)):
        swaps.append((starts[one] + dot(ahead, keys), starts[other] + dot(place, keys), dot(size, keys)))
    pieces = rows if room == top else [*rows, (top, room - top, top)]
    for first, second, length in swaps:
        pieces = swapped(pieces, first, second, length)
    return room, swaps + settling_swaps(pieces)


def course_for(exchange):
    """A course that makes an exchange."""
    check_fair(exchange.wedge)
    rows = exchange.rows()
    laid = [rows[at] for at in exchange.laid()]
    pieces = [(key_of(start * factor), key_of(length), key_of(start)) for start, length, factor in laid]
    pieces, last = peeled(pieces)
    order = order_of([ratio_at(home) for _, _, home in pieces])
    ranks = {at: rank for rank, at in enumerate(order)}
    at_home = [(pieces[at][2], pieces[at][1], pieces[at][0]) for at in order]
    room, swaps = _woven(at_home, [ranks[at] for at in range(len(order))], key_of(exchange.top))
    return course_with(exchange.top, swaps_at(swaps + last[::-1]), ratio_at(room))


def course_between(e, f):
    """A course that makes what leads from one exchange to another one."""
    if e.top != f.top:
        raise OtherLine()
    return course_for(~e >> f)
