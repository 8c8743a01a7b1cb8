"""What several tests need: refusals, coins to try, and sums gone through one by one."""

import unittest
from itertools import combinations
from math import gcd

from paygaps import errors

KINDS = ("NoCoins", "NoPaying", "NoSum", "Shared", "TooMany", "NoOne", "NoGaps", "Unclosed", "NoChange", "TooLittle")

NO_NUMBERS = [True, False, None, "5", "", (5,), [5], {}, 5.0]

WRONG_COINS = [
    [],
    list(range(1, 42)),
    [0],
    [1001],
    [-5],
    [5, 0, 7],
    [5, 7, 1001],
    [5, 5],
    [5, 7, 5],
    [1, 2, 3, 3],
    [10 ** 59],
]
for thing in NO_NUMBERS:
    WRONG_COINS.append([thing])
    WRONG_COINS.append([thing, 5, 7])
    WRONG_COINS.append([5, thing, 7])
    WRONG_COINS.append([5, 7, thing])
    WRONG_COINS.append([4, 6, thing])

SHARED_COINS = [([2], 2), ([1000], 1000), ([4, 6], 2), ([6, 4], 2), ([6, 10, 14], 2), ([999, 333, 666], 333),
                ([12, 18, 30], 6), ([35, 21, 14], 7), (list(range(25, 1001, 25)), 25)]


def share(coins):
    return gcd(*coins)


def small_coin_lists():
    """All lists of one to four coins up to 10, each rising and falling."""
    lists = []
    for size in range(1, 5):
        for coins in combinations(range(1, 11), size):
            lists.append(list(coins))
            lists.append(list(reversed(coins)))
    return lists


def great_coin_lists():
    """Coins with the share 1, with least ones of some hundred, and as many as forty."""
    return [
        [500, 501],
        [1000, 999],
        [997, 1000],
        [999, 1000, 998],
        [360, 840, 997],
        [1000, 750, 600, 999],
        [420, 630, 700, 501],
        [720, 960, 900, 1000, 301],
        [512, 768, 640, 896, 999],
        list(range(961, 1001)),
        list(range(1000, 960, -1)),
        list(range(301, 1000, 18))[:40],
        list(range(220, 1000, 20)) + [999],
        [500 + (37 * k) % 499 for k in range(40)],
        [1] + list(range(962, 1001)),
        list(range(962, 1001)) + [1],
    ]


def unshared_coin_lists():
    return [coins for coins in small_coin_lists() + great_coin_lists() if share(coins) == 1]


def payable_sums(coins, most):
    """For each sum from 0 to most whether it can be paid, gone through one by one."""
    truths = [True]
    for amount in range(1, most + 1):
        truths.append(any(coin <= amount and truths[amount - coin] for coin in coins))
    return truths


class Case(unittest.TestCase):
    def refused(self, kind, call, *handed):
        """The refusal of a call, which is of this one class and of none beside it."""
        try:
            answer = call(*handed)
        except ValueError as refusal:
            self.assertIs(type(refusal), kind, handed)
            self.assertIsInstance(refusal, errors.PayError)
            others = [name for name in KINDS if isinstance(refusal, getattr(errors, name))]
            self.assertEqual(others, [kind.__name__])
            return refusal
        self.fail(f"{call.__name__}{handed!r} was not refused but answered {answer!r}")

    def assert_number(self, thing):
        self.assertIs(type(thing), int)

    def assert_numbers(self, things):
        self.assertIs(type(things), list)
        for thing in things:
            self.assert_number(thing)
