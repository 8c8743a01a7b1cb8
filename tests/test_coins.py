"""[4] Coins, payings and shares."""

from paygaps.coins import coin_list, share_of, sum_paid
from paygaps.errors import NoCoins, NoPaying
from tests.helping import NO_NUMBERS, SHARED_COINS, WRONG_COINS, Case, great_coin_lists, share, small_coin_lists


class CoinList(Case):
    def test_coins_come_back_rising(self):
        self.assertEqual(coin_list([7, 5]), [5, 7])
        self.assertEqual(coin_list([5, 7]), [5, 7])
        self.assertEqual(coin_list([10, 4, 5, 1000, 1]), [1, 4, 5, 10, 1000])

    def test_one_coin_and_forty(self):
        self.assertEqual(coin_list([3]), [3])
        self.assertEqual(coin_list(list(range(40, 0, -1))), list(range(1, 41)))

    def test_none_and_forty_one(self):
        self.refused(NoCoins, coin_list, [])
        self.refused(NoCoins, coin_list, list(range(1, 42)))

    def test_the_least_and_the_greatest_worth(self):
        self.assertEqual(coin_list([1]), [1])
        self.assertEqual(coin_list([1000]), [1000])
        self.assertEqual(coin_list([1000, 1]), [1, 1000])
        self.refused(NoCoins, coin_list, [0])
        self.refused(NoCoins, coin_list, [1001])
        self.refused(NoCoins, coin_list, [-1])
        self.refused(NoCoins, coin_list, [1, 1001])
        self.refused(NoCoins, coin_list, [0, 1])

    def test_one_coin_twice(self):
        self.refused(NoCoins, coin_list, [5, 5])
        self.refused(NoCoins, coin_list, [5, 7, 5])
        self.refused(NoCoins, coin_list, [7, 5, 9, 5, 2])

    def test_no_numbers_at_each_place(self):
        for thing in NO_NUMBERS:
            with self.subTest(repr(thing)):
                self.refused(NoCoins, coin_list, [thing])
                self.refused(NoCoins, coin_list, [thing, 5, 7])
                self.refused(NoCoins, coin_list, [5, thing, 7])
                self.refused(NoCoins, coin_list, [5, 7, thing])

    def test_all_functions_refuse_what_is_no_coins(self):
        for coins in WRONG_COINS:
            with self.subTest(repr(coins)):
                self.refused(NoCoins, coin_list, coins)
                self.refused(NoCoins, share_of, coins)
                self.refused(NoCoins, sum_paid, coins, [0] * len(coins))


class SumPaid(Case):
    def test_each_worth_as_often_as_taken(self):
        self.assertEqual(sum_paid([5, 7], [2, 1]), 17)
        self.assertEqual(sum_paid([7, 5], [2, 1]), 19)
        self.assertEqual(sum_paid([10, 4, 5], [0, 3, 2]), 22)
        self.assertEqual(sum_paid([3], [0]), 0)
        self.assertEqual(sum_paid([1, 1000], [0, 0]), 0)
        self.assert_number(sum_paid([5, 7], [0, 0]))

    def test_forty_coins(self):
        coins = list(range(40, 0, -1))
        self.assertEqual(sum_paid(coins, [1] * 40), 820)
        self.assertEqual(sum_paid(coins, [0] * 39 + [9]), 9)

    def test_many_figures(self):
        times = 10 ** 59 + 7
        self.assertEqual(sum_paid([1000, 3], [times, 0]), 1000 * 10 ** 59 + 7000)
        self.assertEqual(sum_paid([1000, 3], [times, times]), 1003 * 10 ** 59 + 7021)

    def test_a_number_too_few_or_too_many(self):
        self.refused(NoPaying, sum_paid, [5, 7], [1])
        self.refused(NoPaying, sum_paid, [5, 7], [])
        self.refused(NoPaying, sum_paid, [5, 7], [1, 2, 0])
        self.refused(NoPaying, sum_paid, [5], [])

    def test_a_number_below_0(self):
        self.refused(NoPaying, sum_paid, [5, 7], [-1, 2])
        self.refused(NoPaying, sum_paid, [5, 7], [2, -1])
        self.refused(NoPaying, sum_paid, [5, 7, 9], [2, -10 ** 59, 3])

    def test_no_number(self):
        for thing in NO_NUMBERS:
            with self.subTest(repr(thing)):
                self.refused(NoPaying, sum_paid, [5, 7, 9], [thing, 1, 1])
                self.refused(NoPaying, sum_paid, [5, 7, 9], [1, thing, 1])
                self.refused(NoPaying, sum_paid, [5, 7, 9], [1, 1, thing])

    def test_no_coins_is_told_ahead_of_no_paying(self):
        for coins in WRONG_COINS:
            with self.subTest(repr(coins)):
                self.refused(NoCoins, sum_paid, coins, [-1])
                self.refused(NoCoins, sum_paid, coins, [True] * (len(coins) + 1))


class ShareOf(Case):
    def test_one_coin_shares_itself(self):
        for coin in [1, 2, 97, 1000]:
            self.assertEqual(share_of([coin]), coin)

    def test_coins_that_share_a_number_above_1(self):
        for coins, expected in SHARED_COINS:
            with self.subTest(coins):
                self.assertEqual(share_of(coins), expected)

    def test_coins_that_share_none(self):
        for coins in [[5, 7], [7, 5], [6, 10, 15], [1, 1000], [999, 1000]]:
            with self.subTest(coins):
                self.assertEqual(share_of(coins), 1)

    def test_many_lists(self):
        for coins in small_coin_lists() + great_coin_lists():
            found = share_of(coins)
            self.assert_number(found)
            self.assertEqual(found, share(coins), coins)
