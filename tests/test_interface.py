"""The names of the interface: where they are defined, and with which arguments."""

import importlib
import inspect
import unittest

FUNCTIONS = {
    "coins": ["coin(seed, n, text)", "challenge(q, text)", "joined_text(word, numbers)",
              "challenge_of(q, word, numbers)"],
    "groups": ["check_order(q)", "is_element(q, value)", "power(q, base, exponent)",
               "product(q, first, second)", "product_of_powers(q, bases, exponents)",
               "inverse(q, value)", "logarithm(q, base, value)", "quotient(q, first, second)",
               "setup_of(q, seed)", "check_setup(setup)"],
}

CONSTANTS = {
    "groups": {"LEAST_ORDER": 11, "GREATEST_ORDER": 1013},
}


class InterfaceTest(unittest.TestCase):

    def test_functions_are_defined_in_their_file_with_their_arguments(self):
        for module_name, signatures in FUNCTIONS.items():
            module = importlib.import_module("cloak." + module_name)
            for signature in signatures:
                function = getattr(module, signature.partition("(")[0])
                self.assertTrue(inspect.isfunction(function), signature)
                self.assertEqual(function.__module__, module.__name__, signature)
                self.assertEqual(function.__name__ + str(inspect.signature(function)), signature)

    def test_constants(self):
        for module_name, constants in CONSTANTS.items():
            module = importlib.import_module("cloak." + module_name)
            for name, value in constants.items():
                self.assertEqual(getattr(module, name), value, name)


if __name__ == "__main__":
    unittest.main()
