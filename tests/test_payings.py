"""[3], [7] Payings of sums, and the papers of coins."""

from paygaps.coins import sum_paid
from paygaps.errors import NoCoins, NoSum, Shared
from paygaps.houses import house_of
from paygaps.payings import papers_of, paying_of
from tests.helping import (
    NO_NUMBERS, SHARED_COINS, WRONG_COINS, Case, great_coin_lists, payable_sums, small_coin_lists,
    unshared_coin_lists,
)


class PapersOf(Case):
    def test_five_and_seven(self):
        self.assertEqual(papers_of([5, 7]), [[0, 0], [0, 3], [0, 1], [0, 4], [0, 2]])
        self.assertEqual(papers_of([7, 5]), [[0, 0], [3, 0], [1, 0], [4, 0], [2, 0]])

    def test_one_among_the_coins(self):
        self.assertEqual(papers_of([1]), [[0]])
        self.assertEqual(papers_of([9, 1, 4]), [[0, 0, 0]])

    def test_each_paper_pays_the_least_sum_of_its_rest(self):
        for coins in unshared_coin_lists():
            with self.subTest(coins):
                papers = papers_of(coins)
                self.assertIs(type(papers), list)
                for paper in papers:
                    self.assert_numbers(paper)
                self.assertEqual([sum_paid(coins, paper) for paper in papers], house_of(coins))

    def test_coins_that_share_a_number_are_refused(self):
        for coins, expected in SHARED_COINS:
            with self.subTest(coins):
                self.assertEqual(self.refused(Shared, papers_of, coins).share, expected)

    def test_no_coins_is_told_ahead_of_shared(self):
        for coins in WRONG_COINS + [[4, 4], [6, 0], [1002, 4], list(range(2, 84, 2))]:
            with self.subTest(repr(coins)):
                self.refused(NoCoins, papers_of, coins)


class PayingOf(Case):
    def assert_pays(self, coins, amount):
        paying = paying_of(coins, amount)
        self.assertIsNotNone(paying, (coins, amount))
        self.assert_paying(coins, paying, amount)

    def test_five_and_seven(self):
        self.assertEqual(paying_of([5, 7], 12), [1, 1])
        self.assertEqual(paying_of([5, 7], 24), [2, 2])
        self.assertEqual(paying_of([5, 7], 5), [1, 0])
        self.assertEqual(paying_of([7, 5], 5), [0, 1])
        self.assertEqual(paying_of([7, 5], 19), [2, 1])
        self.assertIsNone(paying_of([5, 7], 23))

    def test_nothing_is_paid_with_nothing(self):
        self.assertEqual(paying_of([5, 7], 0), [0, 0])
        self.assertEqual(paying_of([4, 6, 10], 0), [0, 0, 0])

    def test_sums_gone_through(self):
        for coins in small_coin_lists() + [[12, 18, 30], [33, 21, 15]]:
            for amount, truth in enumerate(payable_sums(coins, 45)):
                if truth:
                    self.assert_pays(coins, amount)
                else:
                    self.assertIsNone(paying_of(coins, amount), (coins, amount))

    def test_about_the_least_sums(self):
        for coins in great_coin_lists():
            house = house_of(coins)
            for least in sorted(house)[::150] + [max(house)]:
                self.assert_pays(coins, least)
                self.assert_pays(coins, least + len(house))
                self.assertIsNone(paying_of(coins, least - len(house)))

    def test_a_common_share(self):
        for coins, share in SHARED_COINS:
            with self.subTest(coins):
                for coin in coins:
                    self.assert_pays(coins, coin)
                    self.assertIsNone(paying_of(coins, coin + 1))
                    self.assertIsNone(paying_of(coins, coin - 1))
                self.assert_pays(coins, share * 10 ** 50)
                self.assertIsNone(paying_of(coins, share * 10 ** 50 + 1))
        self.assertIsNone(paying_of([4, 6], 2))
        self.assertIsNone(paying_of([10, 14], 46))
        self.assertEqual(paying_of([14, 10], 24), [1, 1])
        self.assertEqual(paying_of([1000], 3000), [3])

    def test_sums_below_0(self):
        for coins in [[1], [5, 7], [4, 6], [1000], [999, 1000]]:
            for amount in [-1, -2, -4, -5, -12, -1000, -10 ** 59]:
                self.assertIsNone(paying_of(coins, amount))

    def test_sixty_figures(self):
        for coins in great_coin_lists() + [[5, 7], [7, 5], [1], [6, 10, 15]]:
            for amount in [10 ** 59, 10 ** 60 - 1, 10 ** 59 + 123456789]:
                self.assert_pays(coins, amount)
        self.assert_pays([6, 4], 10 ** 59)
        self.assertIsNone(paying_of([6, 4], 10 ** 60 - 1))

    def test_no_numbers(self):
        for thing in NO_NUMBERS:
            with self.subTest(repr(thing)):
                self.refused(NoSum, paying_of, [5, 7], thing)
                self.refused(NoSum, paying_of, [4, 6], thing)

    def test_no_coins_is_told_ahead_of_no_sum(self):
        for coins in WRONG_COINS:
            with self.subTest(repr(coins)):
                self.refused(NoCoins, paying_of, coins, 12)
                self.refused(NoCoins, paying_of, coins, None)
                self.refused(NoCoins, paying_of, coins, True)
