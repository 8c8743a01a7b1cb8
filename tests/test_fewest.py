"""[11], [12] Few coins, and the greatest first."""

from itertools import combinations

from paygaps.errors import NoCoins, NoOne, NoSum, TooMany
from paygaps.fewest import fewest, fewest_list, greedy, greedy_always
from tests.helping import NO_NUMBERS, WRONG_COINS, Case, great_coin_lists, payable_sums, small_coin_lists


def fewest_gone_through(coins, most):
    """How few coins pay each sum to most: all sums of one coin, of two, and so on."""
    numbers = [None] * (most + 1)
    reached = {0}
    number = 0
    while reached:
        for amount in reached:
            numbers[amount] = number
        number += 1
        onward = {amount + coin for amount in reached for coin in coins}
        reached = {amount for amount in onward if amount <= most and numbers[amount] is None}
    return numbers


def greatest_first(coins, amount):
    """The paying by the greatest first, coin for coin; None where something is left."""
    taken = []
    for coin in sorted(coins)[::-1]:
        while coin <= amount - sum(taken):
            taken.append(coin)
    return [taken.count(coin) for coin in coins] if sum(taken) == amount else None


class FewestList(Case):
    def test_ordinary_coins(self):
        self.assertEqual(fewest_list([1, 3, 4], 10), [0, 1, 2, 1, 1, 2, 2, 2, 2, 3, 3])
        self.assertEqual(fewest_list([7, 5], 15),
                         [0, None, None, None, None, 1, None, 1, None, None, 2, None, 2, None, 2, 3])
        self.assertEqual(fewest_list([6, 4], 9), [0, None, None, None, 1, None, 1, None, 2, None])

    def test_sums_gone_through(self):
        for coins in small_coin_lists():
            self.assertEqual(fewest_list(coins, 60), fewest_gone_through(coins, 60), coins)
        for coins in great_coin_lists() + [[12, 18, 30], [1000]]:
            found = fewest_list(coins, 2000)
            self.assertEqual(found, fewest_gone_through(coins, 2000), coins)
            self.assert_numbers([number for number in found if number is not None])

    def test_none_just_where_a_sum_cannot_be_paid(self):
        for coins in small_coin_lists() + great_coin_lists():
            truths = [number is not None for number in fewest_list(coins, 300)]
            self.assertEqual(truths, payable_sums(coins, 300), coins)

    def test_sums_to_0_and_to_2000(self):
        for coins in [[1], [5, 7], [4, 6], [1000]]:
            self.assertEqual(fewest_list(coins, 0), [0])
            self.assertEqual(len(fewest_list(coins, 1)), 2)
            self.assertEqual(len(fewest_list(coins, 2000)), 2001)
        self.assertEqual(fewest_list([1], 2000), list(range(2001)))
        self.assertEqual(fewest_list([1000], 2000)[1000:], [1] + [None] * 999 + [2])

    def test_sums_above_2000_are_refused(self):
        for most in [2001, 2002, 10 ** 59]:
            self.refused(TooMany, fewest_list, [5, 7], most)

    def test_no_numbers_from_0_on_are_refused(self):
        for most in [-1, -2001, -10 ** 59] + NO_NUMBERS:
            self.refused(NoSum, fewest_list, [5, 7], most)

    def test_no_coins_is_told_first(self):
        for coins in WRONG_COINS:
            for most in [10, -1, 2001, False, None]:
                self.refused(NoCoins, fewest_list, coins, most)


class Fewest(Case):
    def assert_fewest(self, coins, amount, number):
        paying = fewest(coins, amount)
        if number is None:
            self.assertIsNone(paying, (coins, amount))
        else:
            self.assert_paying(coins, paying, amount)
            self.assertEqual(sum(paying), number, (coins, amount))

    def test_ordinary_sums(self):
        self.assertEqual(fewest([1, 3, 4], 6), [0, 2, 0])
        self.assertEqual(fewest([4, 3, 1], 6), [0, 2, 0])
        self.assertEqual(fewest([3, 1, 4], 7), [1, 0, 1])
        self.assertEqual(fewest([25, 10, 1], 30), [0, 3, 0])
        self.assertIsNone(fewest([5, 7], 23))
        self.assertIsNone(fewest([4, 6], 2))

    def test_nothing_is_paid_with_nothing(self):
        self.assertEqual(fewest([5, 7], 0), [0, 0])
        self.assertEqual(fewest([1000], 0), [0])

    def test_as_many_coins_as_the_list_tells(self):
        for coins in small_coin_lists():
            for amount, number in enumerate(fewest_gone_through(coins, 40)):
                self.assert_fewest(coins, amount, number)
        for coins in great_coin_lists() + [[12, 18, 30], [1, 500, 667, 999]]:
            numbers = fewest_gone_through(coins, 2000)
            for amount in list(range(0, 2001, 97)) + list(range(1990, 2001)):
                self.assert_fewest(coins, amount, numbers[amount])

    def test_sums_below_0(self):
        for coins in [[1], [5, 7], [4, 6], [1000]]:
            for amount in [-1, -2, -5, -12, -2001, -10 ** 59]:
                self.assertIsNone(fewest(coins, amount))

    def test_2000_and_above(self):
        self.assertEqual(fewest([1000], 2000), [2])
        self.assertEqual(fewest([1], 2000), [2000])
        for amount in [2001, 2002, 10 ** 59]:
            self.refused(TooMany, fewest, [1], amount)
            self.refused(TooMany, fewest, [4, 6], amount)

    def test_no_numbers(self):
        for thing in NO_NUMBERS:
            self.refused(NoSum, fewest, [5, 7], thing)

    def test_no_coins_is_told_first(self):
        for coins in WRONG_COINS:
            for amount in [10, -1, 2001, True, None]:
                self.refused(NoCoins, fewest, coins, amount)


class Greedy(Case):
    def test_ordinary_sums(self):
        self.assertEqual(greedy([1, 3, 4], 6), [2, 0, 1])
        self.assertEqual(greedy([4, 1, 3], 6), [1, 2, 0])
        self.assertEqual(greedy([3, 4, 1], 6), [0, 1, 2])
        self.assertEqual(greedy([5, 7], 12), [1, 1])
        self.assertEqual(greedy([7, 5], 26), [3, 1])
        self.assertIsNone(greedy([7, 5], 24))
        self.assertIsNone(greedy([5, 7], 10))
        self.assertEqual(greedy([1000], 3000), [3])

    def test_nothing_is_paid_with_nothing(self):
        self.assertEqual(greedy([5, 7], 0), [0, 0])
        self.assertEqual(greedy([1000], 0), [0])

    def test_coin_for_coin(self):
        for coins in small_coin_lists() + [[3, 10, 6, 25, 14]]:
            for amount in range(60):
                paying = greedy(coins, amount)
                self.assertEqual(paying, greatest_first(coins, amount), (coins, amount))
                if paying is not None:
                    self.assert_paying(coins, paying, amount)

    def test_sixty_figures(self):
        great = 10 ** 59
        self.assertEqual(greedy([1], great), [great])
        self.assertEqual(greedy([1, 1000], great + 7), [7, 10 ** 56])
        self.assertEqual(greedy([1000, 10, 1], great + 7), [10 ** 56, 0, 7])
        self.assertEqual(greedy([10, 1, 3], 10 ** 60 - 1), [10 ** 59 - 1, 0, 3])
        self.assertIsNone(greedy([1000, 10], great + 7))
        self.assertIsNone(greedy([10, 4], great + 2))
        self.assertEqual(greedy([10, 4], great + 8), [10 ** 58, 2])

    def test_sums_below_0(self):
        for coins in [[1], [5, 7], [4, 6], [1000]]:
            for amount in [-1, -2, -5, -12, -1000, -10 ** 59]:
                self.assertIsNone(greedy(coins, amount))

    def test_no_numbers(self):
        for thing in NO_NUMBERS:
            self.refused(NoSum, greedy, [5, 7], thing)
            self.refused(NoSum, greedy, [1], thing)

    def test_no_coins_is_told_first(self):
        for coins in WRONG_COINS:
            for amount in [10, -1, True, None]:
                self.refused(NoCoins, greedy, coins, amount)


class GreedyAlways(Case):
    def assert_told(self, coins, most):
        """The answer agrees with all sums to most, gone through one by one."""
        told = greedy_always(coins)
        self.assertIs(type(told), tuple)
        numbers = fewest_gone_through(coins, most)
        failing = [amount for amount in range(most + 1) if sum(greatest_first(coins, amount)) > numbers[amount]]
        if failing:
            self.assertEqual(told[:2], ("fails", failing[0]), coins)
            self.assertEqual(len(told), 4)
            self.assertEqual(told[2], greatest_first(coins, told[1]), coins)
            self.assert_paying(coins, told[2], told[1])
            self.assert_paying(coins, told[3], told[1])
            self.assertEqual(sum(told[3]), numbers[told[1]], coins)
            self.assertLess(sum(told[3]), sum(told[2]))
        else:
            self.assertEqual(told, ("always", sum(sorted(coins)[-2:])), coins)
        self.assert_number(told[1])

    def test_always_best(self):
        self.assertEqual(greedy_always([1, 5, 10, 25]), ("always", 35))
        self.assertEqual(greedy_always([10, 1, 25, 5]), ("always", 35))
        self.assertEqual(greedy_always([200, 100, 50, 20, 10, 5, 2, 1]), ("always", 300))
        self.assertEqual(greedy_always(list(range(1, 41))), ("always", 79))
        self.assertEqual(greedy_always([1, 10, 100, 1000]), ("always", 1100))

    def test_one_and_two_coins(self):
        self.assertEqual(greedy_always([1]), ("always", 1))
        self.assertEqual(greedy_always([1, 2]), ("always", 3))
        self.assertEqual(greedy_always([1000, 1]), ("always", 1001))

    def test_not_always_best(self):
        self.assertEqual(greedy_always([1, 3, 4]), ("fails", 6, [2, 0, 1], [0, 2, 0]))
        self.assertEqual(greedy_always([4, 1, 3]), ("fails", 6, [1, 2, 0], [0, 0, 2]))
        self.assertEqual(greedy_always([25, 10, 1]), ("fails", 30, [1, 0, 5], [0, 3, 0]))
        self.assertEqual(greedy_always([1, 999, 1000]), ("fails", 1998, [998, 0, 1], [0, 2, 0]))

    def test_a_failing_sum_just_below_the_bound(self):
        # The bound is 1999, and no sum below 1998 fails.
        self.assertEqual(greedy_always([1000, 999, 1])[:2], ("fails", 1998))
        self.assertEqual(greedy_always([1, 5, 6])[:2], ("fails", 10))

    def test_all_small_coins(self):
        for size in range(0, 4):
            for others in combinations(range(2, 13), size):
                coins = [1] + list(others)
                self.assert_told(coins, 60)
        for coins in [[7, 1, 10, 4], [12, 9, 1], [1, 4, 6, 8], [8, 1, 5, 11, 3]]:
            self.assert_told(coins, 200)

    def test_great_coins(self):
        for coins in [[1, 2, 500, 999], [1000, 1, 750, 250], [1] + list(range(25, 1000, 25)), [1, 7, 60, 500],
                      [1] + list(range(962, 1001)), list(range(981, 1001)) + list(range(20, 0, -1))]:
            self.assert_told(coins, 2200)

    def test_without_one(self):
        for coins in [[2], [5, 7], [7, 5], [4, 6], [1000], list(range(2, 42)), [1000, 10, 2]]:
            self.refused(NoOne, greedy_always, coins)

    def test_no_coins_is_told_ahead_of_no_one(self):
        for coins in WRONG_COINS + [[2, 2], [0, 5], [5, 1001], [1, 1], [1, 5, 5]]:
            self.refused(NoCoins, greedy_always, coins)
