"""[5], [6] Houses and their gaps."""

from paygaps.errors import NoCoins, NoSum, Shared, TooMany
from paygaps.houses import gap_list, gap_number, greatest_gap, house_of, is_house, pays
from tests.helping import (
    NO_NUMBERS, SHARED_COINS, WRONG_COINS, Case, great_houses, payable_sums, share, small_coin_lists, small_houses,
    unshared_coin_lists,
)

# Unlike those of coins up to 1000, these have needed coins of other worths.
OTHER_HOUSES = [
    [0],
    [0, 3],
    [0, 2003],
    [0, 1003, 2003],
    [0, 999999],
    [0, 4, 5],
    [0, 10 ** 59 + 1],
]


class HouseOf(Case):
    def test_five_and_seven(self):
        self.assertEqual(house_of([5, 7]), [0, 21, 7, 28, 14])
        self.assertEqual(house_of([7, 5]), [0, 21, 7, 28, 14])

    def test_one_among_the_coins(self):
        for coins in [[1], [1, 5], [5, 1], [1000, 7, 1], [1] + list(range(962, 1001))]:
            with self.subTest(coins):
                self.assertEqual(house_of(coins), [0])

    def test_other_houses(self):
        self.assertEqual(house_of([2, 3]), [0, 3])
        self.assertEqual(house_of([3, 2, 7]), [0, 3])
        self.assertEqual(house_of([6, 10, 15]), [0, 25, 20, 15, 10, 35])
        self.assertEqual(house_of([4, 6, 9]), [0, 9, 6, 15])
        self.assertEqual(house_of([999, 1000]), [1000 * rest for rest in range(999)])

    def test_each_least_sum_has_its_place_as_rest_and_no_coin_leads_below(self):
        for coins in unshared_coin_lists():
            with self.subTest(coins):
                house = house_of(coins)
                self.assert_numbers(house)
                self.assertEqual(len(house), min(coins))
                self.assertEqual(house[0], 0)
                for rest, least in enumerate(house):
                    self.assertEqual(least % len(house), rest)
                    for coin in coins:
                        self.assertLessEqual(house[(least + coin) % len(house)], least + coin)

    def test_least_sums_agree_with_sums_gone_through(self):
        for coins in small_coin_lists() + [[32, 127, 129], [100, 151, 207, 333]]:
            if share(coins) == 1:
                house = house_of(coins)
                truths = payable_sums(coins, max(house))
                size = len(house)
                for rest in range(size):
                    paid = [amount for amount in range(rest, len(truths), size) if truths[amount]]
                    self.assertEqual(house[rest], paid[0], coins)

    def test_the_same_house_just_where_the_same_sums_are_paid(self):
        self.assertEqual(house_of([4, 5]), house_of([10, 4, 5]))
        self.assertEqual(house_of([6, 10, 15]), house_of([21, 15, 10, 6, 30]))
        self.assertNotEqual(house_of([4, 5]), house_of([4, 5, 6]))

    def test_coins_that_share_a_number_are_refused(self):
        for coins, expected in SHARED_COINS:
            with self.subTest(coins):
                refusal = self.refused(Shared, house_of, coins)
                self.assert_number(refusal.share)
                self.assertEqual(refusal.share, expected)

    def test_no_coins_is_told_ahead_of_shared(self):
        for coins in WRONG_COINS + [[4, 4], [6, 0], [1002, 4], list(range(2, 84, 2))]:
            with self.subTest(repr(coins)):
                self.refused(NoCoins, house_of, coins)


class IsHouse(Case):
    def assert_is(self, truth, numbers):
        self.assertIs(is_house(numbers), truth, numbers)

    def test_houses(self):
        for house in OTHER_HOUSES + small_houses() + great_houses():
            self.assert_is(True, house)
        for coins in unshared_coin_lists():
            self.assert_is(True, house_of(coins))

    def test_the_list_of_none(self):
        self.assert_is(False, [])

    def test_a_thousand_numbers_and_one_more(self):
        self.assert_is(True, [0] + list(range(1001, 2000)))
        self.assert_is(False, [0] + list(range(1002, 2002)))
        self.assert_is(True, [1001 * rest for rest in range(1000)])
        self.assert_is(False, [1002 * rest for rest in range(1001)])

    def test_the_first_is_not_0(self):
        self.assert_is(False, [1])
        self.assert_is(False, [2, 3])
        self.assert_is(False, [5, 21, 7, 28, 14])
        self.assert_is(False, [-5, 21, 7, 28, 14])

    def test_a_number_not_above_the_length(self):
        self.assert_is(False, [0, 1])
        self.assert_is(False, [0, 1, 2])
        self.assert_is(False, [0, 4, 2])
        self.assert_is(False, [0, 21, 2, 28, 14])
        self.assert_is(False, [0, 4, -1])
        self.assert_is(False, [0, -1])
        self.assert_is(False, [0, 0])
        self.assert_is(False, [0, 2])

    def test_a_wrong_rest(self):
        self.assert_is(False, [0, 4])
        self.assert_is(False, [0, 5, 4])
        self.assert_is(False, [0, 21, 7, 29, 14])
        self.assert_is(False, [0, 22, 7, 28, 14])
        self.assert_is(False, [0, 21, 7, 28, 15])
        self.assert_is(False, [0] + list(range(1001, 1999)) + [2000])

    def test_two_that_add_up_to_less(self):
        self.assert_is(False, [0, 21, 7, 33, 14])
        self.assert_is(True, [0, 6, 7, 8, 9])
        self.assert_is(False, [0, 6, 7, 18, 14])
        self.assert_is(True, [0, 6, 12, 13, 9])
        # Here it is just 7 and 14, whose places go beyond the length together.
        self.assert_is(False, [0, 26, 7, 13, 14])
        self.assert_is(False, [0] + list(range(1001, 1999)) + [3999])

    def test_one_taken_twice_that_adds_up_to_less(self):
        self.assert_is(False, [0, 4, 11])
        self.assert_is(True, [0, 4, 8])
        self.assert_is(False, [0, 13, 5])
        self.assert_is(True, [0, 10, 5])
        # Only 6 taken twice is below the 17.
        self.assert_is(False, [0, 6, 17, 18, 19])

    def test_only_one_pair_breaks_the_condition(self):
        # Each list is a house but for one number that is a length too great.
        for house in [house_of([5, 7]), house_of([6, 10, 15]), house_of([7, 9, 11])]:
            for place in range(1, len(house)):
                raised = list(house)
                raised[place] += len(house)
                pairs = [(one, other) for one in raised for other in raised]
                closed = all(one + other >= raised[(one + other) % len(raised)] for one, other in pairs)
                self.assert_is(closed, raised)

    def test_no_numbers(self):
        for thing in NO_NUMBERS:
            self.assert_is(False, [thing])
            self.assert_is(False, [thing, 3])
            self.assert_is(False, [0, thing])
            self.assert_is(False, [0, thing, 5])
            self.assert_is(False, [0, 4, thing])
        self.assert_is(False, [False])
        self.assert_is(False, [False, 3])
        self.assert_is(False, [0, True])

    def test_all_small_lists(self):
        for first in range(-1, 2):
            for second in range(-4, 16):
                self.assert_is(first == 0 and second > 2 and second % 2 == 1, [first, second])
                for third in range(-4, 16):
                    expected = (first == 0 and second > 3 and third > 3 and second % 3 == 1 and third % 3 == 2
                                and 2 * second >= third and 2 * third >= second)
                    self.assert_is(expected, [first, second, third])


class Gaps(Case):
    def test_five_and_seven(self):
        house = [0, 21, 7, 28, 14]
        self.assertEqual(greatest_gap(house), 23)
        self.assertEqual(gap_number(house), 12)
        self.assertEqual(gap_list(house), [1, 2, 3, 4, 6, 8, 9, 11, 13, 16, 18, 23])

    def test_no_gaps(self):
        self.assertEqual(greatest_gap([0]), -1)
        self.assertEqual(gap_number([0]), 0)
        self.assertEqual(gap_list([0]), [])

    def test_one_gap(self):
        self.assertEqual(greatest_gap([0, 3]), 1)
        self.assertEqual(gap_number([0, 3]), 1)
        self.assertEqual(gap_list([0, 3]), [1])

    def test_gaps_agree_with_sums_gone_through(self):
        for coins in small_coin_lists() + [[100, 151, 207, 333], list(range(961, 1001)), [59, 157, 159]]:
            if share(coins) == 1:
                house = house_of(coins)
                truths = payable_sums(coins, max(house) + 50)
                gaps = [amount for amount, truth in enumerate(truths) if not truth]
                self.assertEqual(greatest_gap(house), max(gaps, default=-1), coins)
                self.assertEqual(gap_number(house), len(gaps), coins)
                self.assert_number(greatest_gap(house))
                self.assert_number(gap_number(house))
                if max(gaps, default=-1) <= 2000:
                    self.assertEqual(gap_list(house), gaps, coins)
                else:
                    self.refused(TooMany, gap_list, house)

    def test_a_greatest_gap_of_2000_is_listed(self):
        coins = [32, 127, 129]
        house = house_of(coins)
        truths = payable_sums(coins, 2100)
        self.assertEqual(greatest_gap(house), 2000)
        self.assertEqual(gap_list(house), [amount for amount in range(2101) if not truths[amount]])
        house = [0, 1003, 2003]
        gaps = list(range(1, 1001, 3)) + list(range(2, 2001, 3))
        self.assertEqual(greatest_gap(house), 2000)
        self.assertEqual(gap_list(house), sorted(gaps))
        self.assertEqual(gap_number(house), len(gaps))

    def test_a_greatest_gap_of_2001_is_refused(self):
        for house in [[0, 2003], house_of([32, 183, 212]), house_of([83, 98, 178])]:
            self.assertEqual(greatest_gap(house), 2001)
            self.refused(TooMany, gap_list, house)

    def test_great_gaps_are_counted_and_refused_in_a_list(self):
        house = house_of([999, 1000])
        self.assertEqual(greatest_gap(house), 997001)
        self.assertEqual(gap_number(house), 498501)
        self.refused(TooMany, gap_list, house)


class Pays(Case):
    def test_five_and_seven(self):
        house = [0, 21, 7, 28, 14]
        self.assertIs(pays(house, 23), False)
        for amount in range(24, 100):
            self.assertIs(pays(house, amount), True)

    def test_sums_gone_through(self):
        for coins in small_coin_lists() + [[100, 151, 207, 333], list(range(961, 1001))]:
            if share(coins) == 1:
                house = house_of(coins)
                truths = payable_sums(coins, max(house) + 30)
                self.assertEqual([pays(house, amount) for amount in range(len(truths))], truths, coins)

    def test_sums_below_0(self):
        for house in [[0], [0, 3], [0, 21, 7, 28, 14], house_of([999, 1000])]:
            for amount in [-1, -2, -5, -7, -999, -1000, -10 ** 59]:
                self.assertIs(pays(house, amount), False)
            self.assertIs(pays(house, 0), True)

    def test_sums_of_many_figures(self):
        for house in [[0], [0, 3], [0, 21, 7, 28, 14], house_of([999, 1000])]:
            for amount in [10 ** 6, 10 ** 59, 10 ** 60 - 1]:
                self.assertIs(pays(house, amount), True)

    def test_no_numbers(self):
        for thing in NO_NUMBERS:
            with self.subTest(repr(thing)):
                self.refused(NoSum, pays, [0], thing)
                self.refused(NoSum, pays, [0, 21, 7, 28, 14], thing)
