"""Each name of the document's interface that has landed: where it is defined, and what it takes.

What the interface calls map is called led here, for map is a builtin's name; it is handed in by its place.
"""

import importlib
import inspect
import unittest

from rootrooms.house import House
from rootrooms.nets import Net

# In each file the functions, with the arguments by their places and those by their names.
FUNCTIONS = {
    "rests": {"is_prime": (["thing"], []), "contrary": (["number"], ["prime"])},
    "matrices": {
        "is_matrix": (["thing"], ["prime"]),
        "product": (["one", "other"], ["prime"]),
        "plus": (["one", "other"], ["prime"]),
        "times": (["number", "one"], ["prime"]),
        "flipped": (["one"], ["prime"]),
        "beside": (["matrices"], ["rows", "prime"]),
        "above": (["matrices"], ["columns", "prime"]),
        "ones": (["many"], []),
        "noughts": (["rows", "columns"], []),
    },
    "lines": {
        "least": (["one"], ["prime"]),
        "rank": (["one"], ["prime"]),
        "kills": (["one"], ["prime"]),
        "fills": (["one"], ["prime"]),
        "undo": (["one"], ["prime"]),
        "solved": (["one", "right"], ["prime"]),
    },
    "nets": {
        "is_heap": (["net", "thing"], []),
        "form": (["net", "one", "other"], []),
        "pieces": (["net"], []),
        "kinds": (["net"], []),
        "is_few": (["net"], []),
        "bar": (["net"], []),
        "sinks": (["net"], []),
        "sources": (["net"], []),
        "heap_turned": (["net", "heap", "room"], []),
    },
    "roots": {
        "roots": (["net"], []),
        "ladder": (["net"], []),
        "before": (["net", "root"], []),
        "behind": (["net", "root"], []),
    },
    "books": {
        "is_book": (["net", "thing"], []),
        "is_map": (["net", "one", "other", "thing"], []),
        "nought_book": (["net"], []),
        "alone": (["net", "room"], []),
        "joined": (["net", "books"], []),
        "followed": (["net", "one", "other", "third", "first", "second"], []),
        "ones_of": (["net", "book"], []),
        "undone": (["net", "one", "other", "led"], []),
    },
    "cuts": {
        "killed": (["net", "one", "other", "led"], []),
        "hit": (["net", "one", "other", "led"], []),
        "left": (["net", "one", "other", "led"], []),
        "arrows_hit": (["net", "book"], []),
    },
    "between": {"maps": (["net", "one", "other"], [])},
    "ties": {
        "is_tie": (["net", "over", "under", "thing"], []),
        "ties": (["net", "over", "under"], []),
        "tied": (["net", "over", "under", "tie"], []),
        "held": (["net", "over", "under", "tie"], []),
    },
    "turning": {
        "turned": (["net", "book", "room"], []),
        "turned_map": (["net", "one", "other", "led"], ["room"]),
        "returned": (["net", "book", "room"], []),
    },
    "parts": {
        "part": (["net", "root"], []),
        "is_counts": (["net", "thing"], []),
        "book_of": (["net", "counts"], []),
        "parts": (["net", "book"], []),
        "alike": (["net", "one", "other"], []),
    },
    "meshes": {
        "mesh": (["net", "root"], []),
        "lifted": (["net", "root", "book", "led"], []),
        "steps": (["net", "root"], []),
    },
    "parted": {
        "heap_of": (["net", "counts"], []),
        "many_maps": (["net", "one", "other"], []),
        "many_ties": (["net", "over", "under"], []),
        "parted": (["net", "heap"], []),
        "plain": (["net", "heap"], []),
        "below": (["net", "one", "other"], []),
    },
    "lowering": {"lowered": (["net", "counts"], [])},
    "counting": {
        "many_selves": (["net", "counts"], []),
        "many_alike": (["net", "counts"], []),
        "many_under": (["net", "book", "top", "under"], []),
        "many_tied": (["net", "whole", "top", "under"], []),
    },
    "looker": {"look": (["net", "paper"], [])},
}

# Each method of a house, with the arguments by their places and those by their names.
HOUSE_METHODS = {
    "put": (["name", "book"], []),
    "swap": (["name", "book"], []),
    "join": (["name", "one", "other"], []),
    "tie": (["name", "over", "under", "tie"], []),
    "kill": (["name", "one", "other", "led"], []),
    "leave": (["name", "one", "other", "led"], []),
    "change": (["name", "arrow"], ["row", "column", "number"]),
    "take_out": (["name"], []),
    "turn": (["room"], []),
    "mark": ([], []),
    "back": (["number"], []),
    "net": ([], []),
    "names": ([], []),
    "marks": ([], []),
    "book": (["name"], []),
    "parts": (["name"], []),
    "alike": (["one", "other"], []),
    "maps": (["one", "other"], []),
    "ties": (["over", "under"], []),
}


class InterfaceTest(unittest.TestCase):

    def test_every_function_stands_in_its_file_and_takes_what_is_listed(self):
        for file, functions in FUNCTIONS.items():
            module = importlib.import_module(f"rootrooms.{file}")
            for name, (by_place, by_name) in functions.items():
                with self.subTest(file=file, name=name):
                    function = getattr(module, name)
                    self.assertEqual(function.__module__, f"rootrooms.{file}")
                    self.takes(function, by_place, by_name)

    def takes(self, function, by_place, by_name):
        """The function takes just these arguments, each of which is due."""
        told = inspect.signature(function).parameters.values()
        self.assertEqual([x.name for x in told if x.kind is x.POSITIONAL_OR_KEYWORD], by_place)
        self.assertEqual([x.name for x in told if x.kind is x.KEYWORD_ONLY], by_name)
        self.assertEqual(len(told), len(by_place) + len(by_name))
        self.assertTrue(all(x.default is x.empty for x in told))

    def test_the_class_house(self):
        self.assertEqual(House.__module__, "rootrooms.house")
        self.takes(House, ["net"], [])
        for name, (by_place, by_name) in HOUSE_METHODS.items():
            with self.subTest(name=name):
                self.takes(vars(House)[name], ["self"] + by_place, by_name)

    def test_the_class_net(self):
        self.assertEqual(Net.__module__, "rootrooms.nets")
        self.assertEqual(str(inspect.signature(Net)), "(rooms, arrows, *, prime=2)")
        for name in ["__init__", "__eq__", "__len__", "turned"]:
            self.assertIn(name, vars(Net))
        self.assertEqual(str(inspect.signature(Net.turned)), "(self, room)")
        self.assertEqual(vars(Net(2, ((0, 1),), prime=3)), {"rooms": 2, "arrows": ((0, 1),), "prime": 3})


if __name__ == "__main__":
    unittest.main()
