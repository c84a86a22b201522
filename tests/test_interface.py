"""The names, arguments and homes that the interface lists."""

import importlib
import inspect
import unittest

FUNCTIONS = {
    "lanescroll.wholes": {
        "is_whole": "(thing, low, high)",
        "is_bytes": "(thing)",
    },
    "lanescroll.ratios": {
        "fraction": "(top, bottom=1)",
        "is_fraction": "(thing)",
        "is_moment": "(thing)",
        "plus": "(one, other)",
        "minus": "(one, other)",
        "times": "(one, other)",
        "shared": "(one, other)",
        "less": "(one, other)",
        "floor": "(one)",
    },
}


class Interface(unittest.TestCase):
    def test_functions_have_their_arguments_and_their_home(self):
        for home, functions in FUNCTIONS.items():
            module = importlib.import_module(home)
            for name, arguments in functions.items():
                with self.subTest(home=home, name=name):
                    found = getattr(module, name)
                    self.assertTrue(inspect.isfunction(found))
                    self.assertEqual(str(inspect.signature(found)), arguments)
                    self.assertEqual(found.__module__, home)


if __name__ == "__main__":
    unittest.main()
