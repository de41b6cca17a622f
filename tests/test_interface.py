"""The interface: names, parameters in order, and the file that defines each."""

import importlib
import inspect
import unittest
from pathlib import Path

from onetrain.book import Book
from onetrain.desk import Desk

INTERFACE = {
    "errors": {
        "TrainError": None,
        "BadCount": ["what", "count"],
        "NoCrossing": ["crossing"],
        "RingRoad": ["road"],
        "NoRoad": ["road"],
        "OffRoad": ["road"],
        "NotWhole": ["march"],
        "Wide": ["count"],
        "OtherTree": None,
        "NoName": ["name"],
        "NoRow": ["name"],
        "NoBack": None,
        "BadRow": ["number"],
        "BadText": ["place"],
    },
    "trees": {"Road": ["a", "b", "length"], "Tree": ["crossings", "roads"]},
    "places": {
        "Place": ["road", "number", "parts"],
        "key": ["tree", "place"],
        "corner": ["tree", "crossing"],
        "distance": ["tree", "one", "other"],
        "step": ["tree", "place", "goal", "steps"],
    },
    "marches": {
        "March": ["goal", "steps"],
        "Row": ["tree", "marches"],
        "after": ["row", "place", "*rounds"],
    },
    "doings": {
        "Stretch": ["road", "least", "greatest", "first", "last"],
        "doing": ["row"],
        "is_doing": ["row", "stretches"],
    },
    "alike": {"Alike": [], "Parted": ["place", "ours", "theirs"], "held": ["row", "other"]},
    "backs": {"Piece": ["road", "least", "greatest", "parts"], "back": ["row", "place"]},
    "trains": {
        "Train": ["one", "other", "is_turned", "stands"],
        "train": ["row"],
        "is_train": ["row", "paper"],
    },
    "fates": {"fate": ["row", "place"], "far": ["row", "place", "rounds"], "meet": ["row", "one", "other"]},
    "settling": {"settled": ["row"], "fewest": ["tree", "marches"]},
    "book": {"Book": ["tree"]},
    "rowtexts": {
        "tree_rows": ["tree"],
        "read_tree": ["rows"],
        "place_text": ["place"],
        "row_text": ["row"],
        "read_row": ["tree", "text"],
    },
    "desk": {"Desk": ["tree"]},
}

METHODS = {
    "keep": ["name", "marches"],
    "drop": ["name"],
    "row": ["name"],
    "names": [],
    "post": ["place"],
    "call": ["name"],
    "where": [],
    "claim": ["name", "other"],
    "claims": [],
    "many": [],
    "back": [],
}

# The only parameters with a default value.
DEFAULTS = {("after", "rounds"): 1}


def each_name():
    for file, names in INTERFACE.items():
        module = importlib.import_module("onetrain." + file)
        for name, parameters in names.items():
            yield module, name, parameters


def star_if_by_keyword_alone(parameter):
    return {inspect.Parameter.POSITIONAL_OR_KEYWORD: "", inspect.Parameter.KEYWORD_ONLY: "*"}[parameter.kind]


class Interface(unittest.TestCase):
    def test_each_name_is_defined_in_its_file(self):
        for module, name, _ in each_name():
            with self.subTest(name):
                found = getattr(module, name)
                self.assertEqual((found.__module__, found.__name__), (module.__name__, name))

    def test_parameters_in_order_each_also_by_keyword(self):
        for module, name, parameters in each_name():
            if parameters is not None:
                with self.subTest(name):
                    found = inspect.signature(getattr(module, name)).parameters.values()
                    self.assertEqual([star_if_by_keyword_alone(one) + one.name for one in found], parameters)
                    for one in found:
                        default = DEFAULTS.get((name, one.name), inspect.Parameter.empty)
                        self.assertEqual(one.default, default)

    def test_methods(self):
        for listed, owner in [(METHODS, Book), ({"tell": ["row"]}, Desk)]:
            for name, parameters in listed.items():
                with self.subTest(name):
                    found = inspect.signature(vars(owner)[name]).parameters.values()
                    self.assertEqual([star_if_by_keyword_alone(one) + one.name for one in found], ["self", *parameters])
                    self.assertEqual({one.default for one in found}, {inspect.Parameter.empty})

    def test_told_of_each_error(self):
        for module, name, _ in each_name():
            if module.__name__ == "onetrain.errors":
                self.assertEqual(list(inspect.signature(vars(getattr(module, name))["told"]).parameters), ["self"])

    def test_no_file_of_the_interface_is_missing(self):
        package = Path(importlib.import_module("onetrain").__file__).parent
        self.assertLessEqual({name + ".py" for name in INTERFACE}, {path.name for path in package.iterdir()})


if __name__ == "__main__":
    unittest.main()
