"""The interface stands where the document lists it, and the files keep the sizes and characters they may have."""

import ast
import unittest
from pathlib import Path

PACKAGE = Path(__file__).resolve().parent.parent / "turnsleft"

# for each file its functions, and its classes with their methods and properties; one star marks keyword-only
# parameters, two stars one that takes any number of values
INTERFACE = {
    "words": {
        "is_name": "value", "is_number": "value", "is_tone": "value", "tone_of": "over under", "tone_text": "tone",
        "read_tone": "text",
    },
    "ratios": {
        "Ratio": {
            "__init__": "over under=1", "of_powers": "powers", "read": "text", "powers": "", "bits": "", "power": "k",
            "below": "other", "as_tone": "", "text": "", "__str__": "", "__repr__": "", "__mul__": "other",
            "__floordiv__": "other", "__eq__": "other",
        },
        "is_ratio": "value", "is_length": "value", "multiplied": "ratios", "in_order": "ratios",
    },
    "tones": {"led": "tone ratio", "compared": "tone ratio", "within": "tone start length"},
    "matrices": {"determinant": "matrix", "rank_of": "matrix", "common_minor": "matrix"},
    "wedges": {
        "Wedge": {
            "__init__": "pairs bits=(0, 0, 0, 0, 0, 0)", "pairs": "", "bits": "", "at": "p q", "matrix": "", "flat": "",
            "rank": "", "owed": "", "content": "", "__add__": "other", "__sub__": "other", "__neg__": "", "__mul__": "k",
            "__rmul__": "k", "__eq__": "other", "__bool__": "", "text": "", "__str__": "", "__repr__": "",
        },
        "wedge_of": "u v", "nothing": "", "pfaffian": "wedge primes", "square_at": "wedge primes",
    },
    "relations": {"relation": "ratios", "is_loose": "ratios", "root_of": "ratio", "is_base_part": "ratios"},
    "atoms": {"atoms_of": "lengths", "cut_along": "start word atoms"},
    "sums": {"turned_pairs": "rows", "pair_sum": "rows", "straight_matrix": "rows"},
    "exchanges": {
        "Exchange": {
            "__init__": "top rows", "rows": "", "laid": "", "image": "start length", "__call__": "tone",
            "walk": "tone many", "__rshift__": "other", "__invert__": "", "times": "k", "wedge": "", "fair": "", "owed": "",
            "__eq__": "other", "__len__": "", "text": "", "__str__": "", "read": "text", "__repr__": "",
        },
    },
    "moves": {
        "Turn": {
            "__init__": "start first second", "end": "", "wedge": "", "on": "top", "smaller": "", "__eq__": "other",
            "__repr__": "",
        },
        "Swap": {
            "__init__": "first second length", "end": "", "wedge": "", "on": "top", "__eq__": "other", "__repr__": "",
        },
        "still": "top", "fold": "top by", "arranged": "lengths order", "commutator": "e f",
    },
    "courses": {
        "Course": {
            "__init__": "top swaps *room=None", "swaps": "", "keeps": "", "product": "", "wide": "", "made": "",
            "walk": "tone", "__add__": "other", "__invert__": "", "carried": "exchange", "cancelled": "", "__eq__": "other",
            "__len__": "", "__repr__": "",
        },
    },
    "letters": {"steps_home": "order"},
    "making": {"course_for": "exchange", "course_between": "e f"},
    "sorting": {"same_sort": "e f", "sorts": "exchanges"},
    "pairing": {"paired_course": "exchange"},
    "normal": {"normal_sum": "wedge", "divisors": "wedge", "anchor_of": "wedge"},
    "placing": {
        "shrunk": "turn *most", "turns_for": "wedge *low *high", "resolved": "exchange *low=None *high=None",
    },
    "nearby": {"ratio_near": "bits most", "exchange_with": "top wedge *low=None *high=None"},
    "readings": {
        "Reading": {
            "__init__": "weights *bits=(0, 0, 0, 0, 0, 0) *modulus=0", "weights": "", "bits": "", "__call__": "wedge",
            "value_of": "exchange", "__add__": "other", "__eq__": "other", "__repr__": "",
        },
    },
    "fitting": {"fitted": "samples *modulus"},
    "lattices": {
        "Lattice": {
            "__init__": "width **vectors", "staircase": "", "counts_for": "vector", "bar": "vector", "spare": "",
            "__contains__": "vector", "__eq__": "other", "__len__": "", "__repr__": "",
        },
    },
    "told": {
        "Told": {
            "__init__": "**exchanges *commutators=False", "exchanges": "", "lattice": "", "makes": "exchange",
            "counts_for": "exchange", "bar": "exchange", "done": "counts", "completed": "exchange", "spare": "",
            "__eq__": "other", "__len__": "", "__repr__": "",
        },
    },
    "folds": {"fold_for": "exchange"},
    "roots": {"root": "exchange k", "root_numbers": "exchange"},
    "partials": {
        "Partial": {
            "__init__": "top rows", "rows": "", "gaps": "", "whole": "", "kept_by": "exchange",
            "with_row": "start length factor", "completed": "*wedge=None", "__eq__": "other", "__len__": "", "__repr__": "",
        },
    },
    "paintings": {
        "Painting": {
            "__init__": "top stripes", "stripes": "", "colour": "tone", "amounts": "", "after": "exchange",
            "course_to": "other", "__eq__": "other", "__len__": "", "__repr__": "",
        },
    },
    "scales": {
        "Scale": {
            "__init__": "**steps", "steps": "", "beginnings": "", "mode": "k", "led_to": "other", "crossings": "other",
            "__eq__": "other", "__len__": "", "__repr__": "",
        },
    },
    "windows": {
        "Window": {
            "__init__": "exchange *low *high", "towers": "", "floors": "", "first_return": "tone", "seen": "", "shift": "",
            "rest": "", "alone": "", "__len__": "", "__repr__": "",
        },
    },
    "threes": {"three_turned": "a b c"},
    "lines": {
        "Lines": {
            "__init__": "**stretches", "stretches": "", "place": "tone", "back": "tone", "joined": "rows",
            "parted": "exchange", "moved": "starts", "__eq__": "other", "__len__": "", "__repr__": "",
        },
    },
    "mirrors": {
        "Mirrored": {
            "__init__": "top rows", "rows": "", "plain": "exchange", "__call__": "tone", "__rshift__": "other",
            "__invert__": "", "parity": "", "__eq__": "other", "__len__": "", "__repr__": "",
        },
        "mirror": "top start length", "three_mirrors": "top turn", "parities_added": "one other",
    },
    "papers": {
        "Paper": {},
        "FairPaper": {"__init__": "exchange course", "fault": "", "holds": ""},
        "UnfairPaper": {"__init__": "exchange other first second", "fault": "", "holds": ""},
        "TurnsPaper": {"__init__": "exchange course turns primes", "fault": "", "holds": ""},
        "MadePaper": {"__init__": "told exchange counts", "fault": "", "holds": ""},
        "BarredPaper": {"__init__": "told exchange reading", "fault": "", "holds": ""},
        "RootPaper": {"__init__": "exchange many root course", "fault": "", "holds": ""},
    },
    "judging": {"look": "**papers", "first_fault": "**papers"},
    "owing": {"owed_after": "**exchanges"},
    "bench": {
        "Bench": {
            "__init__": "", "do": "**deeds", "undo": "", "redo": "", "history": "", "journal": "", "played": "deeds",
            "limit": "", "together": "", "busy": "", "names": "", "exchange_of": "name", "owed_by": "name",
            "same": "one other", "tried": "**deeds", "text": "", "say": "line", "__call__": "line", "twin": "",
            "__contains__": "name", "__eq__": "other", "__len__": "", "__repr__": "",
        },
    },
    "benchtexts": {"write_bench": "bench", "read_bench": "text"},
}
STATIC = ("of_powers", "read", "plain", "played")
PROPERTIES = {
    "wedges": "flat rank owed content", "exchanges": "wedge fair owed", "moves": "end wedge", "courses": "keeps product",
    "partials": "whole", "mirrors": "parity", "papers": "holds", "bench": "limit together busy",
}


def parameters(function):
    """The parameters of a function as a text, without the object of a method."""
    plain = function.args.args
    free = [None] * (len(plain) - len(function.args.defaults)) + function.args.defaults
    named = [(argument.arg, value) for argument, value in zip(plain, free)]
    named += [("**" + argument.arg, None) for argument in [function.args.vararg] if argument is not None]
    kept = zip(function.args.kwonlyargs, function.args.kw_defaults)
    named += [("*" + argument.arg, value) for argument, value in kept]
    words = [name if value is None else f"{name}={ast.unparse(value)}" for name, value in named]
    return " ".join(word for word in words if word != "self")


def defined(body):
    """The functions and classes that a body defines, by their names."""
    return {node.name: node for node in body if isinstance(node, (ast.FunctionDef, ast.ClassDef))}


class InterfaceTest(unittest.TestCase):
    def test_defined_where_listed(self):
        for name, listed in INTERFACE.items():
            found = defined(ast.parse((PACKAGE / f"{name}.py").read_text()).body)
            for entry, told in listed.items():
                self.assertIn(entry, found)
                if isinstance(told, str):
                    self.assertEqual(parameters(found[entry]), told, entry)
                    continue
                methods = defined(found[entry].body)
                for method, words in told.items():
                    self.assertIn(method, methods, entry)
                    self.assertEqual(parameters(methods[method]), words, method)
                    marks = [mark.id for mark in methods[method].decorator_list]
                    own = method in PROPERTIES.get(name, "").split()
                    wished = ["staticmethod"] if method in STATIC else ["property"] if own else []
                    self.assertEqual(marks, wished, method)


class FormTest(unittest.TestCase):
    def test_one_folder_of_files(self):
        for path in PACKAGE.iterdir():
            if path.name != "__pycache__":
                self.assertTrue(path.is_file() and path.suffix == ".py", path)

    def test_sizes_and_characters(self):
        for path in PACKAGE.glob("*.py"):
            text = path.read_text()
            lines = text.split("\n")
            self.assertLessEqual(len(lines), 400, path)
            self.assertLessEqual(max(len(line) for line in lines), 120, path)
            self.assertTrue(all(" " <= sign <= "~" or sign == "\n" for sign in text), path)
            for node in ast.walk(ast.parse(text)):
                if isinstance(node, ast.FunctionDef):
                    self.assertLessEqual(node.end_lineno - node.lineno + 1, 40, node.name)

    def test_imports(self):
        library = {"math": {"gcd", "isqrt", "lcm"}, "itertools": {"combinations"}}
        needs = {}
        for path in PACKAGE.glob("*.py"):
            needs[path.stem] = set()
            for node in ast.walk(ast.parse(path.read_text())):
                self.assertNotIsInstance(node, ast.Import)
                if isinstance(node, ast.ImportFrom):
                    names = {alias.name for alias in node.names}
                    head, _, tail = node.module.partition(".")
                    if head == "turnsleft":
                        needs[path.stem].add(tail)
                    else:
                        self.assertLessEqual(names, library[node.module])
        done = set()
        while needs:
            ready = {name for name, wanted in needs.items() if wanted <= done}
            self.assertTrue(ready, "files import one another in a circle")
            done |= ready
            needs = {name: wanted for name, wanted in needs.items() if name not in ready}


if __name__ == "__main__":
    unittest.main()
