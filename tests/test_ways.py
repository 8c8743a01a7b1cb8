"""[9], [10] Ways to pay, the rule, and the ways by it."""

from itertools import permutations, product
from math import lcm

from paygaps.errors import NoCoins, NoSum, TooMany
from paygaps.ways import rule_of, ways_by, ways_list
from tests.helping import NO_NUMBERS, WRONG_COINS, Case, small_coin_lists

RULED_COINS = [
    [1], [7], [1000], [1, 2], [2, 1], [4, 6], [6, 4], [5, 7], [2, 3, 5], [5, 3, 2], [1, 5, 10, 25], [50, 20, 10, 5],
    [1, 600], [600, 1], [599, 1], [400, 200, 1], [1, 2, 3, 4, 6, 12], [12, 4, 10], [60, 30, 20, 15, 12, 10],
    [1, 2, 3, 4, 5, 6, 10, 12, 15, 20, 30, 60], [120, 60, 40, 30, 24, 20, 15, 12, 10, 8],
]


def payings_gone_through(coins, most):
    """How many payings each sum from 0 to most has, gone through one by one."""
    numbers = [0] * (most + 1)
    for paying in product(*[range(most // coin + 1) for coin in coins]):
        amount = sum(coin * times for coin, times in zip(coins, paying))
        if amount <= most:
            numbers[amount] += 1
    return numbers


def row_gone_through(coins):
    period = lcm(*coins)
    row = [0] * (period * len(coins))
    for paying in product(*[range(period) for coin in coins]):
        paid = [coin * times for coin, times in zip(coins, paying)]
        if max(paid) < period:
            row[sum(paid)] += 1
    return row


class WaysList(Case):
    def test_one_coin(self):
        self.assertEqual(ways_list([1], 4), [1, 1, 1, 1, 1])
        self.assertEqual(ways_list([3], 7), [1, 0, 0, 1, 0, 0, 1, 0])
        self.assertEqual(ways_list([1000], 2000), [1] + [0] * 999 + [1] + [0] * 999 + [1])

    def test_several_coins(self):
        self.assertEqual(ways_list([1, 2], 6), [1, 1, 2, 2, 3, 3, 4])
        self.assertEqual(ways_list([5, 7], 12), [1, 0, 0, 0, 0, 1, 0, 1, 0, 0, 1, 0, 1])
        self.assertEqual(ways_list([1, 5, 10, 25, 50, 100], 100)[100], 293)
        self.assertEqual(ways_list([200, 100, 50, 20, 10, 5, 2, 1], 200)[200], 73682)

    def test_payings_gone_through(self):
        for coins in [coins for coins in small_coin_lists() if len(coins) < 4 and min(coins) > 1]:
            ways = ways_list(coins, 30)
            self.assert_numbers(ways)
            self.assertEqual(ways, payings_gone_through(coins, 30), coins)
        for coins in [[1, 2, 3, 4], [1, 2], [9, 1, 4], [6, 2, 9, 5, 7], [8, 6, 4, 10]]:
            self.assertEqual(ways_list(coins, 25), payings_gone_through(coins, 25), coins)

    def test_any_order_of_the_coins(self):
        expected = ways_list([2, 3, 5, 9], 300)
        for coins in permutations([2, 3, 5, 9]):
            self.assertEqual(ways_list(list(coins), 300), expected)
        self.assertEqual(ways_list(list(range(1, 41)), 900), ways_list(list(range(40, 0, -1)), 900))

    def test_sums_to_0_and_to_2000(self):
        for coins in [[1], [5, 7], [4, 6], [1000]]:
            self.assertEqual(ways_list(coins, 0), [1])
            self.assertEqual(len(ways_list(coins, 1)), 2)
            self.assertEqual(len(ways_list(coins, 1999)), 2000)
            self.assertEqual(len(ways_list(coins, 2000)), 2001)
        self.assertEqual(ways_list([1, 2], 2000), [amount // 2 + 1 for amount in range(2001)])

    def test_great_numbers_are_exact(self):
        ways = ways_list(list(range(1, 41)), 2000)
        # All whole numbers pay 40 in 37338 ways, and 41 in 44583, one of them by a coin of 41.
        self.assertEqual(ways[40:42], [37338, 44582])
        self.assertGreater(ways[2000], 10 ** 30)
        without = ways_list(list(range(1, 40)), 2000)
        for amount in range(40, 2001):
            self.assertEqual(ways[amount], without[amount] + ways[amount - 40])

    def test_sums_above_2000_are_refused(self):
        for most in [2001, 2002, 10 ** 6, 10 ** 59]:
            self.refused(TooMany, ways_list, [5, 7], most)

    def test_no_numbers_from_0_on_are_refused(self):
        for most in [-1, -2, -2001, -10 ** 59] + NO_NUMBERS:
            self.refused(NoSum, ways_list, [5, 7], most)

    def test_no_coins_is_told_first(self):
        for coins in WRONG_COINS:
            for most in [10, -1, 2001, True, None]:
                self.refused(NoCoins, ways_list, coins, most)


class RuleOf(Case):
    def test_one_coin(self):
        self.assertEqual(rule_of([1]), (1, 1, [1]))
        self.assertEqual(rule_of([3]), (1, 3, [1, 0, 0]))
        self.assertEqual(rule_of([1000]), (1, 1000, [1] + [0] * 999))

    def test_two_coins(self):
        self.assertEqual(rule_of([2, 3]), (2, 6, [1, 0, 1, 1, 1, 1, 0, 1, 0, 0, 0, 0]))
        self.assertEqual(rule_of([1, 2]), (2, 2, [1, 1, 0, 0]))
        self.assertEqual(rule_of([2, 4]), (2, 4, [1, 0, 1, 0, 0, 0, 0, 0]))

    def test_rows_gone_through(self):
        for coins in [[1], [7], [1, 2], [4, 6], [6, 4], [5, 7], [3, 4], [1, 2, 3], [2, 3, 4], [12, 4, 6], [10, 5, 2],
                      [1, 2, 4, 8], [6, 3, 2, 1], [4, 1, 6, 12], [8, 12]]:
            rule = rule_of(coins)
            self.assertIs(type(rule), tuple)
            self.assertEqual(rule, (len(coins), lcm(*coins), row_gone_through(coins)))
            self.assert_number(rule[0])
            self.assert_number(rule[1])
            self.assert_numbers(rule[2])

    def test_length_and_all_payings(self):
        for coins in RULED_COINS:
            number, period, row = rule_of(coins)
            self.assertEqual((number, period), (len(coins), lcm(*coins)))
            self.assertEqual(len(row), number * period)
            payings = 1
            for coin in coins:
                payings *= period // coin
            self.assertEqual(sum(row), payings)

    def test_a_row_of_1200_is_told(self):
        for coins in [[600, 1], [1, 600], [300, 200], [400, 200, 1], [300, 150, 100, 2], [240, 120, 80, 60, 48],
                      [120, 60, 40, 30, 24, 20, 15, 12, 10, 8], [200, 100, 50, 40, 25, 20]]:
            number, period, row = rule_of(coins)
            self.assertEqual(len(row), 1200)
            self.assertEqual(row[0], 1)
            self.assertEqual(row[sum(period - coin for coin in coins)], 1)
            self.assertEqual(row[1200 - sum(coins) + 1:], [0] * (sum(coins) - 1))

    def test_a_longer_row_is_refused(self):
        for coins in [[601, 1], [1, 601], [401, 1, 3], [402, 1, 2], [301, 1, 7, 43], [999, 1000],
                      list(range(1, 41)), list(range(961, 1001)), [201, 1, 3, 67, 2, 6]]:
            self.refused(TooMany, rule_of, coins)

    def test_no_coins_is_told_first(self):
        for coins in WRONG_COINS + [[999, 1000, 0], [999, 1000, 999], list(range(1, 42))]:
            self.refused(NoCoins, rule_of, coins)


class WaysBy(Case):
    def test_one_coin(self):
        rule = rule_of([3])
        self.assertEqual([ways_by(rule, amount) for amount in range(7)], [1, 0, 0, 1, 0, 0, 1])

    def test_all_sums_of_the_list(self):
        for coins in RULED_COINS:
            rule = rule_of(coins)
            found = [ways_by(rule, amount) for amount in range(2001)]
            self.assert_numbers(found)
            self.assertEqual(found, ways_list(coins, 2000), coins)

    def test_small_coins(self):
        for coins in small_coin_lists():
            if lcm(*coins) * len(coins) <= 1200:
                rule = rule_of(coins)
                self.assertEqual([ways_by(rule, amount) for amount in range(200)], ways_list(coins, 199), coins)

    def test_sums_below_0(self):
        for coins in RULED_COINS:
            rule = rule_of(coins)
            for amount in [-1, -2, -3, -7, -60, -1000, -1200, -10 ** 59]:
                self.assertEqual(ways_by(rule, amount), 0)
                self.assert_number(ways_by(rule, amount))

    def test_sixty_figures_with_one_coin_and_two(self):
        great = 10 ** 59
        self.assertEqual(ways_by(rule_of([1]), great), 1)
        self.assertEqual(ways_by(rule_of([7]), 7 * great), 1)
        self.assertEqual(ways_by(rule_of([7]), 7 * great + 1), 0)
        self.assertEqual(ways_by(rule_of([1, 2]), 2 * great), great + 1)
        self.assertEqual(ways_by(rule_of([2, 4]), 4 * great), great + 1)
        self.assertEqual(ways_by(rule_of([2, 4]), 4 * great + 1), 0)
        self.assertEqual(ways_by(rule_of([1, 2, 3]), 6 * great), 3 * great ** 2 + 3 * great + 1)

    def test_sixty_figures_without_the_last_coin_and_less_it(self):
        amounts = [10 ** 59, 10 ** 60 - 1, 123456789 * 10 ** 51 + 987654321, 10 ** 30 + 7]
        for coins in RULED_COINS:
            if len(coins) > 1:
                rule = rule_of(coins)
                without = rule_of(coins[:-1])
                for great in amounts:
                    for amount in range(great - 13, great + 1):
                        parts = ways_by(without, amount) + ways_by(rule, amount - coins[-1])
                        self.assertEqual(ways_by(rule, amount), parts, coins)

    def test_no_numbers(self):
        for thing in NO_NUMBERS:
            self.refused(NoSum, ways_by, rule_of([2, 3]), thing)
