import unittest
from importlib import import_module
from inspect import isclass, signature

FUNCTIONS = {
    "trees": ("is_tree(value)", "matches(tree)", "sides_of(tree)"),
    "pools": ("is_pool(value)", "are_results(pool, value)"),
    "endings": ("is_ending(pool, results, value)", "scores(pool, ending)", "count_endings(pool, results)"),
    "hopes": ("is_question(pool, value)", "is_hope(pool, results, question, value)",
              "maximal_leads(pool, results, question)", "find_hope(pool, results, question)"),
    "covers": ("find_cover(pool, results, question)", "is_cover(pool, results, question, value)"),
    "joint": ("is_joint(value)", "is_joint_hope(joint, results, value)", "find_joint_hope(joint, results)",
              "find_joint_cover(joint, results)", "is_joint_cover(joint, results, value)"),
    "pairs": ("greatest_lead(pool, results, team, other)", "find_greatest(pool, results, team, other)",
              "find_bounds(pool, results, team, other)", "show_bounds(pool, results, team, other, value, number)"),
    "places": ("best_place(pool, results, entrant)", "worst_place(pool, results, entrant)", "hopeful(pool, results)"),
    "musts": ("musts(pool, results, question)", "settling(pool, results, question)"),
    "counts": ("count_hopes(pool, results, question)", "lead_counts(pool, results, question)"),
    "chances": ("are_chances(pool, value)", "chance(pool, results, chances, question)",
                "chance_if(pool, results, chances, question, match)", "helping(pool, results, chances, question)",
                "shares(pool, results, chances)"),
    "standings": ("place_counts(pool, results, entrant)", "place_chances(pool, results, chances, entrant)",
                  "leaders(pool, results)"),
    "texts": ("write_sheet(sheet)", "read_sheet(tree, text)"),
    "logs": ("log(desk)", "is_log(pool, value)", "replayed(pool, log)"),
    "fractions": ("is_fraction(value)", "fraction_of(top, bottom)", "total_of(some)", "product_of(one, other)",
                  "is_not_more(one, other)", "cut_to(value, low, high)"),
    "contracts": ("is_contract(pool, value)", "is_book(pool, value)", "pays(pool, book, ending)",
                  "next_match(pool, results)"),
    "quotes": ("are_quotes(pool, value)", "bet_limits(ladder)", "cost(ladder, bet)",
               "is_better(pool, quotes, others)", "find_worse(pool, quotes, others)"),
    "worths": ("worth(pool, results, quotes, book)", "find_plan(pool, results, quotes, book)",
               "secures(pool, results, quotes, book, value, money)",
               "falls_short(pool, results, quotes, book, plan, money)"),
    "scenarios": ("allowance(ladder, chance)", "scenario_sum(pool, results, quotes, book, scenario)",
                  "find_scenario(pool, results, quotes, book)",
                  "shows_more(pool, results, quotes, book, value, money)"),
    "bets": ("next_bet(pool, results, quotes, book)", "need_with(pool, results, quotes, book, bet)",
             "safe_bets(pool, results, quotes, book, money)"),
    "houselogs": ("house_log(house)", "first_house_fault(pool, value)", "is_house_log(pool, value)",
                  "house_behind(pool, log)"),
}
METHODS = {
    ("desk", "Desk"): ("__init__(self, pool)", "__eq__(self, other)", "result(self, match, side)",
                       "claim(self, question)", "undo(self)", "results(self)", "claims(self)", "hope(self, question)"),
    ("houses", "House"): ("__init__(self, pool, quotes, money)", "__eq__(self, other)", "sell(self, contract, price)",
                          "buy_back(self, number, price)", "put_in(self, amount)", "take_out(self, amount)",
                          "better(self, quotes)", "result(self, side)", "pay_out(self)", "judge(self, event)",
                          "undo(self)", "money(self)", "results(self)", "quotes(self)", "contracts(self)",
                          "worth(self)", "next_bet(self)"),
    ("houseerrors", "Unsecured"): ("__init__(self, scenario)",),
}
ERRORS = ("PoolhopesError", "InvalidEvent", "Refused", "TooMany", "InvalidText")


class InterfaceTest(unittest.TestCase):
    def test_functions_stand_in_their_modules(self):
        for module, functions in FUNCTIONS.items():
            found = import_module(f"poolhopes.{module}")
            for function in functions:
                name, parameters = function[:-1].split("(")
                made = getattr(found, name)
                self.assertEqual(made.__module__, f"poolhopes.{module}", name)
                self.assertEqual(list(signature(made).parameters), parameters.split(", "), name)

    def test_methods_stand_in_their_classes(self):
        for (module, name), methods in METHODS.items():
            found = getattr(import_module(f"poolhopes.{module}"), name)
            self.assertTrue(isclass(found))
            self.assertEqual(found.__module__, f"poolhopes.{module}")
            for method in methods:
                called, parameters = method[:-1].split("(")
                self.assertIn(called, vars(found))
                self.assertEqual(list(signature(vars(found)[called]).parameters), parameters.split(", "), called)

    def test_errors_stand_in_their_module(self):
        found = import_module("poolhopes.errors")
        for name in ERRORS:
            error = getattr(found, name)
            self.assertTrue(isclass(error))
            self.assertEqual(error.__module__, "poolhopes.errors")


if __name__ == "__main__":
    unittest.main()
