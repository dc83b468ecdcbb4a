"""Promise 88: calls by names, in any order, give what calls by place give."""

import inspect
import unittest

from tests.samples import ONE, TWO
from tests.test_form import INTERFACE
from turnsleft import (
    atoms, bench, benchtexts, courses, errors, exchanges, fitting, folds, lattices, letters, lines, making, matrices,
    mirrors, moves, nearby, normal, paintings, pairing, papers, partials, placing, ratios, readings, relations, roots,
    scales, sorting, sums, threes, told, tones, wedges, windows, words,
)
from turnsleft.courses import Course
from turnsleft.moves import Swap, Turn, fold, still
from turnsleft.ratios import Ratio
from turnsleft.readings import Reading
from turnsleft.told import Told
from turnsleft.wedges import Wedge

NINE = Ratio(9, 8)
THIRD = Ratio(5, 4)
FIFTH = Ratio(3, 2)
FOURTH = Ratio(4, 3)
ONCE = fold(TWO, FIFTH)
STILL = still(TWO)
ROWS = [(ONE, FOURTH, FIFTH), (FOURTH, FIFTH, Ratio(3, 4))]
SWAP = Swap(ONE, FIFTH, NINE)
COURSE = Course(TWO, [SWAP])
WEDGE = Wedge([1] + [0] * 14)
READING = Reading([1] + [0] * 14, modulus=2)
MIRROR_ROWS = [(ONE, FOURTH, FIFTH, False), (FOURTH, FIFTH, ONE, True)]
TOLD = Told(ONCE)
PARITY = mirrors.mirror(TWO, ONE, TWO).parity
LATTICE = lattices.Lattice(2, (2, 4), (3, 1))
EXCHANGE = exchanges.Exchange(TWO, ROWS)
PARTIAL = partials.Partial(TWO, [(ONE, NINE, ONE)])
PAINTING = paintings.Painting(TWO, [(FIFTH, "red"), (FOURTH, "blue")])
SCALE = scales.Scale(NINE, THIRD)
WINDOW = windows.Window(ONCE, low=ONE, high=FIFTH)
LINES = lines.Lines((ONE, FIFTH), (TWO, FOURTH))
MIRRORED = mirrors.Mirrored(TWO, MIRROR_ROWS)
BENCH = bench.Bench.played([("line", "a", TWO), ("fold", "a", FIFTH)])

# a call and its arguments by place, with the names that they have
CALLS = [
    (words.is_name, "value", ["abc"]), (words.is_number, "value", [3]), (words.is_tone, "value", [(3, 2)]),
    (words.tone_of, "over under", [6, 4]), (words.tone_text, "tone", [(3, 2)]), (words.read_tone, "text", ["3/2"]),
    (ratios.Ratio, "over under", [18, 16]), (Ratio.of_powers, "powers", [[1, 0, 0, 0, 0, 0]]), (Ratio.read, "text", ["9/8"]),
    (NINE.power, "k", [3]), (NINE.below, "other", [THIRD]), (ratios.is_ratio, "value", [NINE]), (ratios.is_length, "value", [NINE]),
    (ratios.multiplied, "ratios", [[NINE, NINE]]), (ratios.in_order, "ratios", [[THIRD, NINE]]),
    (tones.led, "tone ratio", [(3, 2), NINE]), (tones.compared, "tone ratio", [(3, 2), NINE]),
    (tones.within, "tone start length", [(3, 2), ONE, TWO]),
    (matrices.determinant, "matrix", [[[2, 1], [1, 1]]]), (matrices.rank_of, "matrix", [[[2, 1], [1, 1]]]),
    (matrices.common_minor, "matrix", [[[2, 4]]]),
    (wedges.Wedge, "pairs bits", [[1] * 15, [1] * 6]), (WEDGE.at, "p q", [3, 2]), (wedges.wedge_of, "u v", [NINE, THIRD]),
    (wedges.pfaffian, "wedge primes", [WEDGE, [2, 3]]), (wedges.square_at, "wedge primes", [WEDGE, [2, 5]]),
    (relations.relation, "ratios", [[TWO, Ratio(4)]]), (relations.is_loose, "ratios", [[TWO, NINE]]),
    (relations.root_of, "ratio", [Ratio(9, 4)]), (relations.is_base_part, "ratios", [[TWO]]),
    (atoms.atoms_of, "lengths", [[TWO, FIFTH]]), (atoms.cut_along, "start word atoms", [ONE, (0, 1), [NINE, THIRD]]),
    (sums.turned_pairs, "rows", [ROWS]), (sums.pair_sum, "rows", [ROWS]), (sums.straight_matrix, "rows", [ROWS]),
    (exchanges.Exchange, "top rows", [TWO, ROWS]), (EXCHANGE.image, "start length", [NINE, THIRD]), (EXCHANGE, "tone", [(3, 2)]),
    (EXCHANGE.walk, "tone many", [(3, 2), 3]), (EXCHANGE.times, "k", [-3]), (exchanges.Exchange.read, "text", [ONCE.text()]),
    (moves.Turn, "start first second", [ONE, NINE, THIRD]), (Turn(ONE, NINE, THIRD).on, "top", [TWO]),
    (moves.Swap, "first second length", [ONE, FIFTH, NINE]), (SWAP.on, "top", [TWO]), (moves.still, "top", [TWO]),
    (moves.fold, "top by", [TWO, FIFTH]), (moves.arranged, "lengths order", [[NINE, THIRD, TWO], [2, 0, 1]]),
    (moves.commutator, "e f", [ONCE, SWAP.on(TWO)]),
    (courses.Course, "top swaps *room", [TWO, [SWAP], Ratio(3)]), (COURSE.walk, "tone", [(5, 4)]),
    (COURSE.carried, "exchange", [ONCE]), (letters.steps_home, "order", [[2, 0, 1]]),
    (making.course_for, "exchange", [SWAP.on(TWO)]), (making.course_between, "e f", [STILL, SWAP.on(TWO)]),
    (sorting.same_sort, "e f", [ONCE, STILL]), (sorting.sorts, "exchanges", [[ONCE, STILL, ONCE]]),
    (pairing.paired_course, "exchange", [STILL]), (normal.normal_sum, "wedge", [WEDGE]), (normal.divisors, "wedge", [WEDGE]),
    (normal.anchor_of, "wedge", [WEDGE]), (placing.shrunk, "turn *most", [Turn(ONE, NINE, THIRD), Ratio(10, 9)]),
    (placing.turns_for, "wedge *low *high", [WEDGE, NINE, FIFTH]), (placing.resolved, "exchange *low *high", [ONCE, NINE, FIFTH]),
    (nearby.ratio_near, "bits most", [(1, 0, 0, 1, 0, 0), NINE]),
    (nearby.exchange_with, "top wedge *low *high", [TWO, WEDGE, NINE, FIFTH]),
    (readings.Reading, "weights *bits *modulus", [[1] * 15, [1] * 6, 4]), (READING, "wedge", [WEDGE]),
    (READING.value_of, "exchange", [ONCE]), (fitting.fitted, "samples *modulus", [[(WEDGE, 1)], 5]),
    (LATTICE.counts_for, "vector", [[5, 5]]), (LATTICE.bar, "vector", [[0, 5]]), (TOLD.makes, "exchange", [ONCE]),
    (TOLD.counts_for, "exchange", [ONCE.times(3)]), (TOLD.bar, "exchange", [fold(TWO, THIRD)]), (TOLD.done, "counts", [[2]]),
    (TOLD.completed, "exchange", [ONCE]), (folds.fold_for, "exchange", [ONCE]),
    (roots.root, "exchange k", [ONCE.times(3), 3]), (roots.root_numbers, "exchange", [ONCE]),
    (partials.Partial, "top rows", [TWO, ROWS[:1]]), (PARTIAL.kept_by, "exchange", [STILL]),
    (PARTIAL.with_row, "start length factor", [FIFTH, NINE, NINE]), (PARTIAL.completed, "*wedge", [WEDGE]),
    (paintings.Painting, "top stripes", [TWO, [(TWO, "a")]]), (PAINTING.colour, "tone", [(7, 4)]),
    (PAINTING.after, "exchange", [ONCE]), (PAINTING.course_to, "other", [PAINTING.after(ONCE)]),
    (SCALE.mode, "k", [1]), (SCALE.led_to, "other", [SCALE.mode(1)]), (SCALE.crossings, "other", [SCALE.mode(1)]),
    (windows.Window, "exchange *low *high", [ONCE, NINE, FIFTH]), (WINDOW.first_return, "tone", [(5, 4)]),
    (threes.three_turned, "a b c", [NINE, THIRD, TWO]),
    (LINES.place, "tone", [(5, 2)]), (LINES.back, "tone", [(7, 4)]), (LINES.joined, "rows", [LINES.parted(ONCE)]),
    (LINES.parted, "exchange", [ONCE]), (LINES.moved, "starts", [[ONE, FIFTH]]),
    (mirrors.Mirrored, "top rows", [TWO, MIRROR_ROWS]), (mirrors.Mirrored.plain, "exchange", [ONCE]), (MIRRORED, "tone", [(7, 4)]),
    (mirrors.mirror, "top start length", [TWO, NINE, THIRD]),
    (mirrors.three_mirrors, "top turn", [TWO, Turn(ONE, NINE, THIRD)]), (mirrors.parities_added, "one other", [PARITY, PARITY]),
    (papers.FairPaper, "exchange course", [SWAP.on(TWO), COURSE]),
    (papers.UnfairPaper, "exchange other first second", [ONCE, STILL, 2, 3]),
    (papers.TurnsPaper, "exchange course turns primes", [ONCE, COURSE, [Turn(ONE, NINE, NINE)], [2, 3]]),
    (papers.MadePaper, "told exchange counts", [TOLD, ONCE, [1]]), (papers.BarredPaper, "told exchange reading", [TOLD, ONCE, READING]),
    (papers.RootPaper, "exchange many root course", [ONCE.times(2), 2, ONCE, COURSE]),
    (bench.Bench.played, "deeds", [[("line", "b", TWO)]]), (BENCH.exchange_of, "name", ["a"]), (BENCH.owed_by, "name", ["a"]),
    (BENCH.same, "one other", ["a", "a"]), (BENCH.say, "line", ["owed a"]), (BENCH, "line", ["names"]),
    (benchtexts.write_bench, "bench", [BENCH]), (benchtexts.read_bench, "text", [BENCH.text()]),
]


def told_values(value):
    """A value that can be compared: generators as lists, objects without == by what they are told by."""
    if inspect.isgenerator(value):
        return list(value)
    if isinstance(value, papers.Paper):
        return vars(value), value.fault()
    return value.towers() if isinstance(value, windows.Window) else value


class NamedTest(unittest.TestCase):
    def test_calls(self):
        for call, told, values in CALLS:
            names = told.split()
            keyed = {name[1:]: value for name, value in zip(names, values) if name[0] == "*"}
            placed = values[:len(values) - len(keyed)]
            wished = told_values(call(*placed, **keyed))
            by_name = {name.lstrip("*"): value for name, value in zip(names, values)}
            self.assertEqual(told_values(call(**by_name)), wished, told)
            backwards = {name: by_name[name] for name in reversed(list(by_name))}
            self.assertEqual(told_values(call(**backwards)), wished, told)

    def test_commutators_and_width(self):
        one = told.Told(ONCE, commutators=True)
        self.assertEqual(one.commutators, True)
        self.assertEqual(told.Told(ONCE, commutators=False), told.Told(ONCE))
        self.assertRaises(TypeError, told.Told, ONCE, exchanges=[ONCE])

    def test_errors(self):
        for name, kind in inspect.getmembers(errors, inspect.isclass):
            if kind.__init__ in (ValueError.__init__, LookupError.__init__, ArithmeticError.__init__):
                continue
            names = list(inspect.signature(kind).parameters)
            error = kind(**{word: (word, name) for word in reversed(names)})
            self.assertEqual([getattr(error, word) for word in names], [(word, name) for word in names])

    def test_all_of_the_interface(self):
        """Each function and each method with arguments by name is among the calls."""
        called = {(call.__module__, getattr(call, "__qualname__", "")) for call, _, _ in CALLS}
        for module, listed in INTERFACE.items():
            for entry, inner in listed.items():
                if isinstance(inner, str):
                    if inner != "" and "**" not in inner:
                        self.assertIn((f"turnsleft.{module}", entry), called)
                    continue
                for method, parameters in inner.items():
                    if method[0] == "_" or parameters in ("", None) or "**" in parameters:
                        continue
                    self.assertIn((f"turnsleft.{module}", f"{entry}.{method}"), called)


if __name__ == "__main__":
    unittest.main()
