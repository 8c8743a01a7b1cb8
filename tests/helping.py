"""What several tests need: refusals, coins to try, and sums gone through one by one."""

import unittest
from itertools import combinations
from math import gcd

from paygaps import errors

KINDS = ("NoCoins", "NoPaying", "NoSum", "Shared", "TooMany", "NoOne", "NoGaps", "Unclosed", "NoChange", "TooLittle")

NO_NUMBERS = [True, False, None, "5", "", (5,), [5], {}, 5.0]

WRONG_COINS = [
    [],
    list(range(1, 42)),
    [0],
    [1001],
    [-5],
    [5, 0, 7],
    [5, 7, 1001],
    [5, 5],
    [5, 7, 5],
    [1, 2, 3, 3],
    [10 ** 59],
]
for thing in NO_NUMBERS:
    WRONG_COINS.append([thing])
    WRONG_COINS.append([thing, 5, 7])
    WRONG_COINS.append([5, thing, 7])
    WRONG_COINS.append([5, 7, thing])
    WRONG_COINS.append([4, 6, thing])

SHARED_COINS = [([2], 2), ([1000], 1000), ([4, 6], 2), ([6, 4], 2), ([6, 10, 14], 2), ([999, 333, 666], 333),
                ([12, 18, 30], 6), ([35, 21, 14], 7), (list(range(25, 1001, 25)), 25)]


def share(coins):
    return gcd(*coins)


def small_coin_lists():
    """All lists of one to four coins up to 10, each rising and falling."""
    lists = []
    for size in range(1, 5):
        for coins in combinations(range(1, 11), size):
            lists.append(list(coins))
            lists.append(list(reversed(coins)))
    return lists


def great_coin_lists():
    """Coins with the share 1, with least ones of some hundred, and as many as forty."""
    return [
        [500, 501],
        [1000, 999],
        [997, 1000],
        [999, 1000, 998],
        [360, 840, 997],
        [1000, 750, 600, 999],
        [420, 630, 700, 501],
        [720, 960, 900, 1000, 301],
        [512, 768, 640, 896, 999],
        list(range(961, 1001)),
        list(range(1000, 960, -1)),
        list(range(301, 1000, 18))[:40],
        list(range(220, 1000, 20)) + [999],
        [500 + (37 * k) % 499 for k in range(40)],
        [1] + list(range(962, 1001)),
        list(range(962, 1001)) + [1],
    ]


def unshared_coin_lists():
    return [coins for coins in small_coin_lists() + great_coin_lists() if share(coins) == 1]


def payable_sums(coins, most):
    """For each sum from 0 to most whether it can be paid, gone through one by one."""
    truths = [True]
    for amount in range(1, most + 1):
        truths.append(any(coin <= amount and truths[amount - coin] for coin in coins))
    return truths


def small_houses():
    """The houses of small coins, each once, with some that need coins of other worths."""
    houses = [[0], [0, 3], [0, 41], [0, 31, 17], [0, 13, 14, 15], [0] + list(range(10, 18)), [0] + list(range(21, 30))]
    for coins in small_coin_lists():
        if share(coins) == 1:
            house = house_by_truths(payable_sums(coins, 100))
            if house not in houses:
                houses.append(house)
    return houses


def great_houses():
    """Houses of some hundred numbers up to nearly a million, with needed coins of any number and worth."""
    return [
        [1000 * rest for rest in range(999)],
        [1001 * rest for rest in range(1000)],
        [0] + list(range(1001, 2000)),
        [0] + list(range(999001, 1000000)),
        [0, 999999],
        [0, 700000, 800000],
        house_by_truths(payable_sums([360, 840, 997], 200000)),
        house_by_truths(payable_sums(list(range(961, 1001)), 30000)),
    ]


def house_truths(house, most):
    """For each sum from 0 to most whether it can be paid in the house."""
    return [amount >= house[amount % len(house)] for amount in range(most + 1)]


def house_by_truths(truths):
    """The house of these sums, which must go on until each rest has come."""
    size = truths.index(True, 1)
    return [truths[rest::size].index(True) * size + rest for rest in range(size)]


def houses_gone_through(number):
    """All houses with so many gaps, found among all lists of numbers, in the order of these lists."""
    houses = []
    # The gaps of a house lie below twice their number: of a number and its partner one is a gap.
    for gaps in combinations(range(1, 2 * number), number):
        truths = [amount not in gaps for amount in range(4 * number + 2)]
        if not any(truths[part] and truths[gap - part] for gap in gaps for part in range(1, gap)):
            houses.append(house_by_truths(truths))
    return houses


class Case(unittest.TestCase):
    def refused(self, kind, call, *handed):
        """The refusal of a call, which is of this one class and of none beside it."""
        try:
            answer = call(*handed)
        except ValueError as refusal:
            self.assertIs(type(refusal), kind, handed)
            self.assertIsInstance(refusal, errors.PayError)
            others = [name for name in KINDS if isinstance(refusal, getattr(errors, name))]
            self.assertEqual(others, [kind.__name__])
            return refusal
        self.fail(f"{call.__name__}{handed!r} was not refused but answered {answer!r}")

    def assert_number(self, thing):
        self.assertIs(type(thing), int)

    def assert_paying(self, coins, paying, amount):
        self.assert_numbers(paying)
        self.assertEqual(len(paying), len(coins))
        self.assertGreaterEqual(min(paying), 0)
        self.assertEqual(sum(coin * times for coin, times in zip(coins, paying)), amount, coins)

    def assert_numbers(self, things):
        self.assertIs(type(things), list)
        for thing in things:
            self.assert_number(thing)
