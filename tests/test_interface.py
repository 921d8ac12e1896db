"""[14], [2]: the functions stand in their files, with the arguments that the document names; README's examples."""

import doctest
import importlib
import inspect
import os
import unittest

FUNCTIONS = {
    "data": {"is_tree": "thing", "are_wants": "tree thing", "is_plan": "tree thing"},
    "plans": {
        "value_of": "tree plan folder", "values_of": "tree plan", "serves": "tree wants plan", "is_lean": "tree plan",
        "tidied": "tree plan"},
    "routes": {
        "clash": "tree wants", "fewest": "tree wants", "fewest_plan": "tree wants", "is_reason": "tree wants thing",
        "routes": "tree wants", "shown": "tree wants reason"},
    "every": {
        "is_fewest": "tree wants thing", "how_many": "tree wants", "can_be": "tree wants folder",
        "with_value": "tree wants folder value", "must_write": "tree wants", "may_write": "tree wants",
        "pieces": "tree one other", "exchanged": "tree one other folders"},
    "edits": {
        "edits": "one other", "fewest_edits": "tree wants plan", "edited": "tree wants plan",
        "lean_edits": "tree wants plan", "lean_edited": "tree wants plan"},
    "wants": {"spared": "tree wants", "core": "tree wants", "costs": "tree wants folder"},
    "places": {"moved": "tree folder parent", "places": "tree wants folder"},
    "texts": {"tree_text": "tree", "tree_in": "text", "pairs_text": "pairs", "pairs_in": "text"},
    "desk": {"answers": "text"},
}


class Interface(unittest.TestCase):
    def test_each_function_is_defined_in_its_file_with_its_arguments(self):
        for file, functions in FUNCTIONS.items():
            module = importlib.import_module("handeddown." + file)
            for name, arguments in functions.items():
                with self.subTest(file=file, name=name):
                    function = getattr(module, name)
                    self.assertTrue(inspect.isfunction(function))
                    self.assertEqual((function.__module__, function.__name__), ("handeddown." + file, name))
                    self.assertEqual(" ".join(inspect.signature(function).parameters), arguments)
                    for parameter in inspect.signature(function).parameters.values():
                        self.assertIs(parameter.kind, inspect.Parameter.POSITIONAL_OR_KEYWORD)
                        self.assertIs(parameter.default, inspect.Parameter.empty)

    def test_the_readme_tells_what_the_program_answers(self):
        path = os.path.join(os.path.dirname(os.path.dirname(os.path.abspath(__file__))), "README.md")
        told = doctest.testfile(path, module_relative=False, encoding="utf-8")
        self.assertEqual(told.failed, 0)
        self.assertLess(30, told.attempted)


if __name__ == "__main__":
    unittest.main()
