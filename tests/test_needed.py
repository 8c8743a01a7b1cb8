"""[8] Needed coins of houses, needless ones of coin lists."""

from paygaps.errors import NoCoins
from paygaps.houses import house_of
from paygaps.needed import needed_coins, needless_coins
from tests.helping import (
    SHARED_COINS, WRONG_COINS, Case, great_coin_lists, great_houses, house_by_truths, house_truths, payable_sums,
    small_coin_lists, small_houses,
)


def unparted_sums(house):
    """The payable sums from 1 on that are not two such added, gone through one by one."""
    truths = house_truths(house, max(house) + 2 * len(house))
    paid = [amount for amount in range(1, len(truths)) if truths[amount]]
    return [amount for amount in paid if not any(truths[amount - part] for part in paid if part < amount)]


class NeededCoins(Case):
    def test_ordinary_houses(self):
        self.assertEqual(needed_coins([0, 21, 7, 28, 14]), [5, 7])
        self.assertEqual(needed_coins([0, 3]), [2, 3])
        self.assertEqual(needed_coins([0, 25, 20, 15, 10, 35]), [6, 10, 15])
        self.assertEqual(needed_coins([0, 9, 6, 15]), [4, 6, 9])
        self.assertEqual(needed_coins([0, 31, 17]), [3, 17, 31])

    def test_the_house_without_gaps(self):
        self.assertEqual(needed_coins([0]), [1])

    def test_one_sum_taken_twice_is_parted(self):
        self.assertEqual(needed_coins([0, 4, 8]), [3, 4])
        self.assertEqual(needed_coins([0, 10, 5]), [3, 5])
        self.assertEqual(needed_coins([0, 7, 5]), [3, 5, 7])

    def test_just_the_unparted_sums_rising(self):
        for house in small_houses():
            needed = needed_coins(house)
            self.assert_numbers(needed)
            self.assertEqual(needed, unparted_sums(house), house)

    def test_needed_coins_alone_have_the_house(self):
        for house in small_houses():
            needed = needed_coins(house)
            self.assertEqual(house_of(needed), house)
            for coin in needed:
                others = [other for other in needed if other != coin]
                self.assertFalse(others and payable_sums(others, coin)[coin], (house, coin))

    def test_great_houses(self):
        self.assertEqual(needed_coins([1000 * rest for rest in range(999)]), [999, 1000])
        self.assertEqual(needed_coins([0] + list(range(1001, 2000))), list(range(1000, 2000)))
        self.assertEqual(needed_coins([0] + list(range(999001, 1000000))), [1000] + list(range(999001, 1000000)))
        self.assertEqual(needed_coins([0, 999999]), [2, 999999])
        self.assertEqual(needed_coins([0, 700000, 800000]), [3, 700000, 800000])
        for house in great_houses():
            needed = needed_coins(house)
            self.assertEqual(needed, sorted(set(needed)))
            self.assertEqual(needed[0], len(house))
            self.assertLessEqual(set(needed[1:]), set(house[1:]))

    def test_coins_of_a_list_that_are_needed(self):
        for coins in [[360, 840, 997], list(range(961, 1001))]:
            self.assertEqual(needed_coins(house_of(coins)), coins)


class NeedlessCoins(Case):
    def assert_needless(self, coins):
        """All that the point tells of the needless coins of this list."""
        found = needless_coins(coins)
        self.assertIs(type(found), list)
        needless = [coin for coin in sorted(coins) if payable_sums([c for c in coins if c != coin], coin)[coin]]
        self.assertEqual([told[0] for told in found], needless, coins)
        for told in found:
            self.assertIs(type(told), tuple)
            self.assertEqual(len(told), 2)
            self.assert_number(told[0])
            self.assert_paying(coins, told[1], told[0])
            for coin, times in zip(coins, told[1]):
                self.assertFalse(times > 0 and coin in needless, (coins, told))

    def test_ten_four_and_five(self):
        self.assertEqual(needless_coins([10, 4, 5]), [(10, [0, 0, 2])])
        self.assertEqual(needless_coins([4, 5, 10]), [(10, [0, 2, 0])])
        self.assertEqual(needless_coins([5, 10, 4]), [(10, [2, 0, 0])])

    def test_no_needless_coin(self):
        for coins in [[5, 7], [7, 5], [1], [1000], [6, 10, 15], [15, 6, 10], [999, 1000], list(range(961, 1001))]:
            self.assertEqual(needless_coins(coins), [])

    def test_one_makes_all_others_needless(self):
        self.assertEqual(needless_coins([3, 1, 2]), [(2, [0, 2, 0]), (3, [0, 3, 0])])
        self.assertEqual(needless_coins([1000, 1]), [(1000, [0, 1000])])
        coins = list(range(40, 0, -1))
        self.assertEqual(needless_coins(coins), [(coin, [0] * 39 + [coin]) for coin in range(2, 41)])

    def test_needless_coins_pay_no_needless_coins(self):
        self.assertEqual(needless_coins([8, 4, 2]), [(4, [0, 0, 2]), (8, [0, 0, 4])])
        self.assertEqual(needless_coins([12, 9, 6, 3]), [(6, [0, 0, 0, 2]), (9, [0, 0, 0, 3]), (12, [0, 0, 0, 4])])
        self.assertEqual(needless_coins([20, 7, 10, 5]), [(10, [0, 0, 0, 2]), (20, [0, 0, 0, 4])])

    def test_coins_that_share_a_number(self):
        self.assertEqual(needless_coins([6, 4]), [])
        self.assertEqual(needless_coins([10, 6, 4]), [(10, [0, 1, 1])])
        self.assertEqual(needless_coins([1000, 500]), [(1000, [0, 2])])
        for coins, _ in SHARED_COINS:
            self.assert_needless(coins)

    def test_small_and_great_lists(self):
        for coins in small_coin_lists() + great_coin_lists():
            self.assert_needless(coins)
        for coins in [list(range(5, 45)), list(range(60, 20, -1)), [1000 - 21 * k for k in range(40)],
                      [23 * k for k in range(2, 42)]]:
            self.assert_needless(coins)

    def test_those_that_are_not_needless_are_needed_in_the_house(self):
        for coins in [[10, 4, 5], [9, 7, 16, 25, 8], list(range(5, 45)), [30, 21, 15, 10, 6]]:
            needless = [told[0] for told in needless_coins(coins)]
            kept = [coin for coin in sorted(coins) if coin not in needless]
            self.assertEqual(kept, needed_coins(house_by_truths(payable_sums(coins, 500))))

    def test_coins_that_are_none(self):
        for coins in WRONG_COINS:
            with self.subTest(repr(coins)):
                self.refused(NoCoins, needless_coins, coins)
