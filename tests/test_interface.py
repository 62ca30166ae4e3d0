"""Each name of the document's interface that has landed: where it is defined, and what it takes."""

import importlib
import inspect
import unittest

# In each file the functions, with the arguments by their places and those by their names.
FUNCTIONS = {
    "rests": {"is_prime": (["thing"], []), "contrary": (["number"], ["prime"])},
    "matrices": {
        "is_matrix": (["thing"], ["prime"]),
        "product": (["one", "other"], ["prime"]),
        "plus": (["one", "other"], ["prime"]),
        "times": (["number", "one"], ["prime"]),
        "flipped": (["one"], ["prime"]),
        "beside": (["matrices"], ["rows", "prime"]),
        "above": (["matrices"], ["columns", "prime"]),
        "ones": (["many"], []),
        "noughts": (["rows", "columns"], []),
    },
}


class InterfaceTest(unittest.TestCase):

    def test_every_function_stands_in_its_file_and_takes_what_is_listed(self):
        for file, functions in FUNCTIONS.items():
            module = importlib.import_module(f"rootrooms.{file}")
            for name, (by_place, by_name) in functions.items():
                with self.subTest(file=file, name=name):
                    function = getattr(module, name)
                    self.assertEqual(function.__module__, f"rootrooms.{file}")
                    told = inspect.signature(function).parameters.values()
                    self.assertEqual([x.name for x in told if x.kind is x.POSITIONAL_OR_KEYWORD], by_place)
                    self.assertEqual([x.name for x in told if x.kind is x.KEYWORD_ONLY], by_name)
                    self.assertEqual(len(told), len(by_place) + len(by_name))
                    self.assertTrue(all(x.default is x.empty for x in told))


if __name__ == "__main__":
    unittest.main()
