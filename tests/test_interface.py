"""The interface: each name in its module, defined there, with its arguments as the document lists them."""

import importlib
import inspect
import unittest

FUNCTIONS = {
    "shops": [
        "is_shop(shop)", "rows_of(length, most)", "is_choice(shop, choice)", "choices(shop)",
        "choice_cost(shop, choice)", "choice_counts(shop, choice)",
    ],
    "texts": ["format_shop(shop)", "parse_shop(text)"],
    "stocks": [
        "empty_stock(shop)", "is_stock(shop, stock)", "amounts(stock)", "fresh(shop, stock, choice)",
        "issue(stock, order)", "issues(stock, order)", "overnight(stock)", "is_better(one, other)",
    ],
    "days": ["one_day(shop, stock, choice, order)", "run(shop, stock, plan, orders)", "total_spoiled(days)"],
    "games": [
        "next_state(shop, state, choice, order)", "reached(shop, stock, day)", "days_to_beat(shop, stock, day)",
        "rule_choice(shop, stock, day)",
    ],
    "papers": [
        "safe_paper(shop, stock, day)", "verify_safe(shop, stock, day, paper)", "beating_paper(shop, stock, day)",
        "verify_beating(shop, stock, day, paper, days)",
    ],
    "budgets": ["within(shop, budget)", "least_budget(shop, stock, day)"],
    "plans": [
        "least_plan(shop, stock, orders)", "least_waste(shop, stock, orders)", "plan_paper(shop, stock, orders)",
        "verify_plan_paper(shop, stock, orders, bound, paper)", "stocks_by_days(shop, stock, orders)",
    ],
    "bounds": [
        "worth(prices, day, good, days)", "are_prices(shop, orders, prices)",
        "price_bound(shop, stock, orders, prices)", "simple_prices(shop, orders)",
    ],
    "rationals": [
        "common_divisor(first, second)", "divided(number, other)", "is_less(first, second)", "added(first, second)",
    ],
    "means": [
        "least_mean(shop, stock, orders)", "mean_paper(shop, stock, orders)",
        "verify_mean(shop, stock, orders, mean, paper)", "ring(shop, stock, orders)",
    ],
    "rests": ["exact_sides(shop, order)", "least_rest(shop, order)", "needed_patterns(shop)", "gaps(shop, good)"],
    "shares": [
        "groups(many)", "group_costs(shop, orders)", "even_shares(costs, many)", "is_stable(costs, many, shares)",
        "balanced_rows(many)", "unstable_paper(costs, many)", "stable_shares(costs, many)",
    ],
    "journal": ["record_of(deed)", "recovered(shop, octets)", "opened(shop, octets, power)"],
}

CLASSES = {
    "errors": {
        "LarderdaysError": [], "LineError": ["__init__(self, line)"], "Short": ["__init__(self, good)"],
        "PowerCut": ["__init__(self, written)"], "NoSuchBatch": ["__init__(self, number)"],
        "BadChoice": ["__init__(self)"], "ShutError": ["__init__(self)"],
    },
    "shops": {"Shop": ["__init__(self, keep, patterns, most, week, budget=None)"]},
    "games": {"Game": ["__init__(self, shop, stock, day)", "told_choice(self, state)", "told_order(self, state, place)"]},
    "batches": {
        "Ledger": [
            "__init__(self, shop)", "buy(self, choice)", "issue(self, order)", "night(self)", "where(self, number)",
            "recall(self, number)", "amounts(self)",
        ]
    },
    "journal": {
        "Device": ["__init__(self, octets, power)", "append(self, octet)"],
        "JournaledLedger": ["__init__(self, ledger, device)", "perform(self, deed)"],
    },
}


def module_of(name):
    return importlib.import_module("larderdays." + name)


class InterfaceTest(unittest.TestCase):
    def check(self, found, text):
        self.assertTrue(inspect.isfunction(found), text)
        self.assertEqual(found.__name__ + str(inspect.signature(found)), text)

    def test_functions(self):
        for name, texts in FUNCTIONS.items():
            for text in texts:
                found = getattr(module_of(name), text.partition("(")[0])
                self.check(found, text)
                self.assertEqual(found.__module__, "larderdays." + name, text)

    def test_classes(self):
        for name, classes in CLASSES.items():
            for word, texts in classes.items():
                found = getattr(module_of(name), word)
                self.assertTrue(inspect.isclass(found), word)
                self.assertEqual(found.__module__, "larderdays." + name, word)
                for text in texts:
                    self.check(vars(found)[text.partition("(")[0]], text)


if __name__ == "__main__":
    unittest.main()
