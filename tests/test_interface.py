"""The names and the arguments of the whole interface, as it lists them."""

import inspect
import unittest
from importlib import import_module

# For each file its functions, with their arguments.
FUNCTIONS = {
    "parts": {"closed": "routine, runs"},
    "ledgers": {"some_ledger": "counts"},
    "bounds": {"is_ceiling": "routine, value", "is_floor": "routine, value",
               "ceiling_weight": "counts, part, blocks", "floor_weight": "counts, part, blocks",
               "greatest": "counts, part", "least": "counts, part"},
    "between": {"ledger_with": "counts, part, number", "known_numbers": "counts, seen, part"},
    "sure": {"run_times": "counts, run", "sure_runs": "counts", "only_ledger": "counts", "whoever": "counts, a, b"},
    "ways": {"is_recoupled": "first, second, block", "way": "first, second"},
    "shares": {"share": "counts, part"},
    "covers": {"new_numbers": "counts, block, ins"},
    "texts": {"show": "counts", "show_ledger": "ledger", "read": "text", "read_ledger": "routine, text"},
}

# For each file and class its methods, with their arguments behind the object itself.
METHODS = {
    ("routines", "Routine"): {"__init__": "blocks, jumps", "ins": "block", "outs": "block", "is_run": "value",
                              "how_many": "", "all_runs": ""},
    ("parts", "Part"): {"__init__": "routine, jumps", "__call__": "run", "reduced": "", "how_many": "",
                        "kept_runs": "", "kept_run_by": "jump", "not_in": "other"},
    ("counts", "Counts"): {"__init__": "routine, pairs", "load": "block"},
    ("counts", "Tally"): {"__init__": "routine", "uneven": "", "counts": ""},
    ("ledgers", "Ledger"): {"__init__": "routine, entries", "counts": "", "kept": "part",
                            "exchanged": "first, second, block, *, times=1"},
    ("covers", "Cover"): {"__init__": "base, names, jumps", "lift": "run", "name": "run", "lift_part": "part",
                          "lift_ledger": "ledger", "name_ledger": "ledger", "sums": "counts",
                          "copied": "block, ins", "made_one": "first, second", "then": "other"},
    ("programs", "Program"): {"__init__": "blocks", "execute": "inputs", "covered": "cover"},
    ("recorder", "Recorder"): {"__init__": "routine, *, watched=()", "enter": "run, *, times=1",
                               "note": "run, *, times=1", "record": "program, inputs", "counts": "",
                               "fine_counts": "", "noted": "", "cut": "", "pieces": "", "known": "part",
                               "known_by_pieces": "part", "example": "part, number",
                               "example_by_pieces": "part, number", "mark": "", "back_to": "number", "fork": ""},
}

STATIC_METHODS = {
    ("routines", "Routine"): {"parse": "text"},
    ("parts", "Part"): {"through": "routine, items, *, barred=()"},
    ("covers", "Cover"): {"plain": "routine", "watching": "routine, blocks"},
}

PROPERTIES = {
    ("routines", "Routine"): ["jumps"],
    ("parts", "Part"): ["jumps"],
    ("counts", "Counts"): ["pairs", "total"],
    ("ledgers", "Ledger"): ["entries"],
    ("covers", "Cover"): ["names"],
    ("programs", "Program"): ["code"],
}

OPERATORS = {
    ("routines", "Routine"): ["__len__", "__contains__", "__eq__", "__str__"],
    ("parts", "Part"): ["__contains__", "__bool__", "__and__", "__or__", "__le__", "__eq__"],
    ("counts", "Counts"): ["__getitem__", "__add__", "__mul__", "__rmul__", "__eq__"],
    ("counts", "Tally"): ["__getitem__", "__setitem__", "__iadd__"],
    ("ledgers", "Ledger"): ["__getitem__", "__len__", "__add__", "__mul__", "__rmul__", "__eq__"],
    ("covers", "Cover"): ["__eq__"],
    ("programs", "Program"): ["__eq__"],
    ("recorder", "Recorder"): ["__add__"],
}


def class_of(place):
    file, name = place
    return getattr(import_module("runledger." + file), name)


def arguments_of(function):
    """The arguments as the interface writes them."""
    return str(inspect.signature(function))[1:-1]


class InterfaceTest(unittest.TestCase):
    def test_functions(self):
        for file, functions in FUNCTIONS.items():
            module = import_module("runledger." + file)
            for name, arguments in functions.items():
                with self.subTest(name):
                    function = getattr(module, name)
                    self.assertTrue(inspect.isfunction(function))
                    self.assertEqual(function.__module__, module.__name__)
                    self.assertEqual(arguments_of(function), arguments)

    def test_methods_stand_in_the_class_itself(self):
        for place, methods in METHODS.items():
            for name, arguments in methods.items():
                with self.subTest(place, name=name):
                    method = vars(class_of(place))[name]
                    self.assertTrue(inspect.isfunction(method))
                    self.assertEqual(arguments_of(method), ", ".join(["self", *filter(None, [arguments])]))

    def test_static_methods(self):
        for place, methods in STATIC_METHODS.items():
            for name, arguments in methods.items():
                with self.subTest(place, name=name):
                    method = vars(class_of(place))[name]
                    self.assertIsInstance(method, staticmethod)
                    self.assertEqual(arguments_of(method.__func__), arguments)

    def test_properties(self):
        for place, names in PROPERTIES.items():
            for name in names:
                with self.subTest(place, name=name):
                    self.assertIsInstance(vars(class_of(place))[name], property)

    def test_operators(self):
        for place, names in OPERATORS.items():
            for name in names:
                with self.subTest(place, name=name):
                    self.assertTrue(inspect.isfunction(vars(class_of(place))[name]))

    def test_classes_stand_in_their_files(self):
        for place in OPERATORS:
            self.assertEqual(class_of(place).__module__, "runledger." + place[0])
            self.assertEqual(class_of(place).__bases__, (object,))

    def test_generators(self):
        for place, name in [(("routines", "Routine"), "all_runs"), (("parts", "Part"), "kept_runs")]:
            self.assertTrue(inspect.isgeneratorfunction(vars(class_of(place))[name]))


if __name__ == "__main__":
    unittest.main()
