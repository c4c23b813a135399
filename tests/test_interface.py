"""[1] and the interface: names, arguments, and where they are defined."""

import importlib
import inspect
import unittest

CLASSES = {
    "kinds": {"Kinds": ("plus times", {"plus": "", "times": "", "words": "", "add": "first second",
                                       "multiply": "first second", "__eq__": "other"})},
    "rules": {"Rule": ("kinds left right", {"kinds": "", "left": "", "right": "", "__eq__": "other"})},
}
FUNCTIONS = {
    "kinds": {
        "is_plus_table": "value", "is_times_table": "value", "sum_kind": "kinds row", "product_kind": "kinds row",
        "opposite": "kinds", "renamed": "kinds sent", "can_be_left": "kinds", "can_be_right": "kinds",
    },
    "rules": {
        "both_ways": "kinds word triples", "whole_rule": "kinds", "rule_with": "rule left right",
        "rule_without": "rule left right", "meet_rule": "one other", "union_rule": "one other",
        "is_within": "one other", "mirrored_rule": "rule", "renamed_rule": "rule sent",
        "parting_triple": "one other", "is_parting_triple": "one other value",
    },
}


def module_called(name):
    return importlib.import_module("kindspreads." + name)


def parameters_of(function):
    return [each.name for each in inspect.signature(function).parameters.values()]


class InterfaceTest(unittest.TestCase):
    def test_functions_and_their_arguments(self):
        for name, functions in FUNCTIONS.items():
            module = module_called(name)
            for function, arguments in functions.items():
                found = vars(module)[function]
                self.assertEqual(parameters_of(found), arguments.split(), function)
                self.assertEqual(found.__module__, module.__name__, function)

    def test_classes_and_their_methods(self):
        for name, classes in CLASSES.items():
            module = module_called(name)
            for each, (arguments, methods) in classes.items():
                found = vars(module)[each]
                self.assertEqual(found.__module__, module.__name__, each)
                self.assertEqual(parameters_of(found), arguments.split(), each)
                for method, told in methods.items():
                    self.assertEqual(parameters_of(vars(found)[method]), ["self"] + told.split(), (each, method))


if __name__ == "__main__":
    unittest.main()
