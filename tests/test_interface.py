"""The names, arguments and kinds of the files that are there."""

import importlib
import inspect
import unittest

FILES = {
    "ratios": {
        "ratio": "top under", "plus": "one other", "minus": "one other", "times": "one other", "middle": "one other",
        "order_of": "one other",
    },
    "polys": {
        "trimmed": "row", "added": "one other", "multiplied": "one other", "scaled": "poly factor",
        "derivative": "poly", "primitive": "poly", "divisor_of": "one other", "quotient": "one other",
        "square_free": "poly", "degree": "poly", "content": "poly", "sign_at": "poly given",
    },
    "isolating": {"isolated": "poly", "refined": "poly pair width", "counted_in": "poly low high"},
    "numbers": {
        "of_ratio": "given", "nth": "poly k", "roots": "poly", "compared": "one other", "sign_of": "number",
        "floor_of": "number", "weight_of": "number", "as_ratio": "number",
    },
    "field": {
        "added_to": "one other", "less": "one other", "multiplied_by": "one other", "over": "one other",
        "opposite": "number", "inverse": "number", "power_of": "number many", "root_of": "number many",
        "near": "number width",
    },
    "texts": {
        "written": "poly", "ratio_text": "given", "decimal": "number digits", "read": "text", "read_ratio": "text",
    },
    "desk": {"play": "text"},
}
CLASSES = {"errors": "FootError NoRatio NoNumber TooGreat BadText BadRow", "numbers": "Root"}


class Interface(unittest.TestCase):
    def test_functions_and_their_arguments(self):
        for name, functions in FILES.items():
            module = importlib.import_module("surefoot." + name)
            for function, arguments in functions.items():
                told = getattr(module, function)
                self.assertEqual(told.__module__, "surefoot." + name)
                self.assertEqual(list(inspect.signature(told).parameters), arguments.split(), function)

    def test_classes(self):
        for name, classes in CLASSES.items():
            module = importlib.import_module("surefoot." + name)
            for word in classes.split():
                told = getattr(module, word)
                self.assertTrue(inspect.isclass(told))
                self.assertEqual((told.__name__, told.__module__), (word, "surefoot." + name))

    def test_files_of_the_program_s_own_are_there(self):
        for name in ("surefoot.counting", "surefoot.results"):
            self.assertEqual(importlib.import_module(name).__name__, name)


if __name__ == "__main__":
    unittest.main()
