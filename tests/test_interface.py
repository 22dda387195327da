import unittest
from importlib import import_module
from inspect import isclass, signature

FUNCTIONS = {
    "trees": ("is_tree(value)", "matches(tree)", "sides_of(tree)"),
    "pools": ("is_pool(value)", "are_results(pool, value)"),
    "endings": ("is_ending(pool, results, value)", "scores(pool, ending)", "count_endings(pool, results)"),
    "hopes": ("is_question(pool, value)", "is_hope(pool, results, question, value)",
              "maximal_leads(pool, results, question)", "find_hope(pool, results, question)"),
    "covers": ("find_cover(pool, results, question)", "is_cover(pool, results, question, value)"),
    "joint": ("is_joint(value)", "is_joint_hope(joint, results, value)", "find_joint_hope(joint, results)",
              "find_joint_cover(joint, results)", "is_joint_cover(joint, results, value)"),
    "pairs": ("greatest_lead(pool, results, team, other)", "find_greatest(pool, results, team, other)",
              "find_bounds(pool, results, team, other)", "show_bounds(pool, results, team, other, value, number)"),
}
ERRORS = ("PoolhopesError", "InvalidEvent", "Refused", "TooMany", "InvalidText")


class InterfaceTest(unittest.TestCase):
    def test_functions_stand_in_their_modules(self):
        for module, functions in FUNCTIONS.items():
            found = import_module(f"poolhopes.{module}")
            for function in functions:
                name, parameters = function[:-1].split("(")
                made = getattr(found, name)
                self.assertEqual(made.__module__, f"poolhopes.{module}", name)
                self.assertEqual(list(signature(made).parameters), parameters.split(", "), name)

    def test_errors_stand_in_their_module(self):
        found = import_module("poolhopes.errors")
        for name in ERRORS:
            error = getattr(found, name)
            self.assertTrue(isclass(error))
            self.assertEqual(error.__module__, "poolhopes.errors")


if __name__ == "__main__":
    unittest.main()
