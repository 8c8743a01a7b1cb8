"""The names and arguments of the interface, as they stand there."""

import unittest
from importlib import import_module
from inspect import signature

FUNCTIONS = {
    "coins": ["coin_list(coins)", "sum_paid(coins, paying)", "share_of(coins)"],
    "houses": ["house_of(coins)", "is_house(numbers)", "pays(house, amount)", "greatest_gap(house)",
               "gap_number(house)", "gap_list(house)"],
    "payings": ["paying_of(coins, amount)", "papers_of(coins)"],
    "needed": ["needed_coins(house)", "needless_coins(coins)"],
    "ways": ["ways_list(coins, most)", "rule_of(coins)", "ways_by(rule, amount)"],
    "fewest": ["fewest_list(coins, most)", "fewest(coins, amount)", "greedy(coins, amount)", "greedy_always(coins)"],
    "together": ["common(house, other)", "joined(house, other)", "divided(house, by)", "filled(house, start)",
                 "mixed(house, by, other, to)"],
    "mirrors": ["mirror_pairs(house)", "mirror_gap(house)"],
    "gaps": ["house_by_gaps(gaps)"],
    "tree": ["parent_of(house)", "children_of(house)", "houses_with(number)"],
    "till": ["fewest_held(coins, counts, amount)", "Till(coins, counts)"],
}

METHODS = ["held(self)", "worth(self)", "put(self, paying)", "give(self, amount)", "sale(self, price, paying)"]


class Interface(unittest.TestCase):
    def test_functions(self):
        for module, rows in FUNCTIONS.items():
            for row in rows:
                name = row.split("(")[0]
                told = getattr(import_module(f"paygaps.{module}"), name)
                self.assertEqual(name + str(signature(told)), row)

    def test_methods_of_the_till(self):
        till = import_module("paygaps.till").Till
        for row in METHODS:
            name = row.split("(")[0]
            self.assertEqual(name + str(signature(getattr(till, name))), row)
