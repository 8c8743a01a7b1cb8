"""[19], [20] Payings that keep to counts, and a till."""

from itertools import product
from random import Random

from paygaps.errors import NoChange, NoCoins, NoPaying, NoSum, PayError, TooLittle, TooMany
from paygaps.fewest import fewest
from paygaps.till import Till, fewest_held
from tests.helping import NO_NUMBERS, WRONG_COINS, Case

WRONG_SUMS = [-1, -2, -10 ** 59] + NO_NUMBERS


def wrong_payings(coins):
    """Lists that are no payings of the coins, wrong in one thing each."""
    wrong = [[], [1] * (len(coins) - 1), [1] * (len(coins) + 1), [0] * (len(coins) + 1)]
    for place in range(len(coins)):
        for thing in [-1, -10 ** 59] + NO_NUMBERS:
            wrong.append([1] * place + [thing] + [1] * (len(coins) - 1 - place))
    return wrong


def fewest_gone_through(coins, counts):
    """For each sum that is paid by a paying which keeps to the counts, how many coins are the fewest."""
    numbers = {}
    for paying in product(*[range(count + 1) for count in counts]):
        amount = sum(coin * times for coin, times in zip(coins, paying))
        numbers[amount] = min(sum(paying), numbers.get(amount, sum(paying)))
    return numbers


def fewest_by_coins(coins, counts, most):
    """The same for many coins, coin by coin, each number of times tried."""
    numbers = {0: 0}
    for coin, count in zip(coins, counts):
        more = {}
        for amount, number in numbers.items():
            for times in range(count + 1):
                reached = amount + times * coin
                if reached <= most:
                    more[reached] = min(number + times, more.get(reached, number + times))
        numbers = more
    return numbers


class TillCase(Case):
    def assert_fewest(self, coins, counts, amount, number):
        """Whether a paying of the amount keeps to the counts and takes so many coins; None where number is."""
        paying = fewest_held(coins, counts, amount)
        if number is None:
            self.assertIsNone(paying, (coins, counts, amount))
            return
        self.assert_paying(coins, paying, amount)
        self.assertTrue(all(times <= count for times, count in zip(paying, counts)), (coins, counts, amount))
        self.assertEqual(sum(paying), number, (coins, counts, amount))


class FewestHeld(TillCase):
    def test_ordinary_sums(self):
        self.assertEqual(fewest_held([1, 5, 10], [10, 1, 1], 13), [3, 0, 1])
        self.assertEqual(fewest_held([1, 5, 10], [10, 3, 0], 13), [3, 2, 0])
        self.assertEqual(fewest_held([10, 1, 5], [0, 10, 1], 13), [0, 8, 1])
        self.assertIsNone(fewest_held([1, 5, 10], [2, 3, 1], 13))

    def test_the_greatest_first_would_not_do(self):
        self.assertEqual(fewest_held([4, 3, 1], [5, 5, 5], 6), [0, 2, 0])
        self.assertEqual(fewest_held([4, 3, 1], [5, 1, 5], 6), [1, 0, 2])
        self.assertEqual(fewest_held([4, 3, 1], [0, 1, 5], 6), [0, 1, 3])
        self.assertEqual(fewest_held([5, 3], [1, 2], 6), [0, 2])

    def test_all_payings_gone_through(self):
        for coins in [[1], [3], [1, 2], [2, 3], [3, 2], [4, 6], [1, 3, 4], [4, 1, 3], [2, 5, 7], [6, 10, 15],
                      [1, 5, 10, 12]]:
            for counts in product([0, 1, 2, 3, 5], repeat=len(coins)):
                if sum(counts) > 10:
                    continue
                numbers = fewest_gone_through(coins, counts)
                for amount in range(max(numbers) + 3):
                    self.assert_fewest(coins, list(counts), amount, numbers.get(amount))

    def test_each_count_of_one_coin(self):
        for count in range(101):
            for times in sorted({0, 1, count // 2, count - 1, count, count + 1} - {-1}):
                self.assert_fewest([3], [count], 3 * times, times if times <= count else None)
                self.assert_fewest([3], [count], 3 * times + 1, None)

    def test_each_number_of_times_of_a_hundred(self):
        for times in range(101):
            self.assertEqual(fewest_held([19], [100], 19 * times), [times])
            self.assertEqual(fewest_held([1000, 19], [0, 100], 19 * times), [0, times])
        self.assertIsNone(fewest_held([19], [100], 19 * 101))

    def test_counts_of_0(self):
        self.assertEqual(fewest_held([1, 5], [0, 0], 0), [0, 0])
        for amount in [1, 5, 6, 2000]:
            self.assertIsNone(fewest_held([1, 5], [0, 0], amount))
        self.assertEqual(fewest_held([1, 5], [0, 2], 10), [0, 2])
        self.assertIsNone(fewest_held([1, 5], [0, 2], 6))

    def test_counts_of_100(self):
        self.assertEqual(fewest_held([1], [100], 100), [100])
        self.assertIsNone(fewest_held([1], [100], 101))
        self.assertEqual(fewest_held([1, 20], [100, 100], 2000), [0, 100])
        self.assertEqual(fewest_held([1, 20], [100, 99], 2000), [20, 99])
        self.assertEqual(fewest_held([1, 19], [100, 100], 2000), [100, 100])
        self.assertIsNone(fewest_held([1, 19], [99, 100], 2000))
        self.assertIsNone(fewest_held([1, 19], [100, 99], 2000))

    def test_a_sum_of_0(self):
        for coins in [[1], [1000], [7, 5], list(range(961, 1001))]:
            for count in [0, 1, 100]:
                self.assertEqual(fewest_held(coins, [count] * len(coins), 0), [0] * len(coins))

    def test_sums_up_to_2000(self):
        coins = [1, 7, 60, 150, 301, 999]
        for counts in [[100] * 6, [6, 8, 2, 1, 3, 1], [40, 0, 30, 0, 6, 2], [0, 100, 0, 13, 1, 0]]:
            numbers = fewest_by_coins(coins, counts, 2000)
            for amount in list(range(0, 2001, 97)) + [1998, 1999, 2000]:
                self.assert_fewest(coins, counts, amount, numbers.get(amount))

    def test_forty_coins(self):
        for coins in [list(range(1, 41)), list(range(40, 0, -1)), [3 + (37 * k) % 97 for k in range(40)]]:
            for counts in [[100] * 40, [1] * 40, [k % 4 for k in range(40)]]:
                numbers = fewest_by_coins(coins, counts, 2000)
                for amount in [1, 97, 819, 820, 821, 1999, 2000]:
                    self.assert_fewest(coins, counts, amount, numbers.get(amount))

    def test_as_fewest_where_there_is_enough_of_each_coin(self):
        for coins in [[1, 5, 10, 25], [4, 3, 1], [20, 27, 999], [21, 34, 55, 89], [6, 10, 15]]:
            for amount in list(range(0, 101)) + [1998, 1999, 2000]:
                paying = fewest(coins, amount)
                if paying is None:
                    self.assertIsNone(fewest_held(coins, [100] * len(coins), amount))
                elif max(paying) <= 100:
                    self.assert_fewest(coins, [100] * len(coins), amount, sum(paying))
                    self.assert_fewest(coins, paying, amount, sum(paying))

    def test_wrong_coins(self):
        for coins in WRONG_COINS:
            self.refused(NoCoins, fewest_held, coins, [1] * len(coins), 5)

    def test_wrong_counts(self):
        for coins in [[5], [5, 7], [1, 5, 10]]:
            for counts in wrong_payings(coins):
                self.refused(NoPaying, fewest_held, coins, counts, 5)
        for great in [101, 102, 1000, 10 ** 59]:
            self.refused(NoPaying, fewest_held, [5], [great], 5)
            self.refused(NoPaying, fewest_held, [5, 7], [great, 1], 5)
            self.refused(NoPaying, fewest_held, [5, 7], [100, great], 5)

    def test_wrong_sums(self):
        for amount in WRONG_SUMS:
            self.refused(NoSum, fewest_held, [5, 7], [3, 3], amount)
        for amount in [2001, 2002, 10 ** 59]:
            self.refused(TooMany, fewest_held, [5, 7], [3, 3], amount)
            self.refused(TooMany, fewest_held, [1000], [100], amount)

    def test_the_order_of_refusals(self):
        self.refused(NoCoins, fewest_held, [5, 5], [101, True], -1)
        self.refused(NoCoins, fewest_held, [], [], 2001)
        self.refused(NoCoins, fewest_held, [0], [1], None)
        self.refused(NoPaying, fewest_held, [5, 7], [1], -1)
        self.refused(NoPaying, fewest_held, [5, 7], [1, 101], 2001)
        self.refused(NoPaying, fewest_held, [5, 7], [1, True], False)
        self.refused(NoSum, fewest_held, [5, 7], [0, 0], -2001)


class Tills(TillCase):
    def assert_held(self, till, counts, worth):
        self.assert_numbers(till.held())
        self.assertEqual(till.held(), counts)
        self.assert_number(till.worth())
        self.assertEqual(till.worth(), worth)

    def unchanged(self, kind, till, call, *handed):
        """A refusal that leaves the till as it was."""
        counts, worth = till.held(), till.worth()
        self.refused(kind, call, *handed)
        self.assert_held(till, counts, worth)


class Making(Tills):
    def test_what_it_holds(self):
        self.assert_held(Till([1, 5, 10], [3, 2, 1]), [3, 2, 1], 23)
        self.assert_held(Till([10, 1, 5], [3, 2, 1]), [3, 2, 1], 37)
        self.assert_held(Till([5], [0]), [0], 0)
        self.assert_held(Till([1000, 999], [100, 100]), [100, 100], 199900)
        self.assert_held(Till(list(range(961, 1001)), [100] * 40), [100] * 40, 100 * sum(range(961, 1001)))

    def test_wrong_coins(self):
        for coins in WRONG_COINS:
            self.refused(NoCoins, Till, coins, [1] * len(coins))
        self.refused(NoCoins, Till, [5, 5], [101])
        self.refused(NoCoins, Till, [], [True])

    def test_wrong_counts(self):
        for coins in [[5], [5, 7], [1, 5, 10]]:
            for counts in wrong_payings(coins):
                self.refused(NoPaying, Till, coins, counts)
        for great in [101, 102, 10 ** 59]:
            self.refused(NoPaying, Till, [5, 7], [great, 0])
            self.refused(NoPaying, Till, [5, 7], [0, great])


class Putting(Tills):
    def test_coins_put_in(self):
        till = Till([1, 5, 10], [3, 2, 1])
        self.assertIsNone(till.put([1, 0, 4]))
        self.assert_held(till, [4, 2, 5], 64)
        self.assertIsNone(till.put([0, 0, 0]))
        self.assert_held(till, [4, 2, 5], 64)
        self.assertIsNone(till.put([0, 7, 0]))
        self.assert_held(till, [4, 9, 5], 99)

    def test_up_to_a_hundred_of_a_coin(self):
        till = Till([1, 5], [3, 100])
        self.unchanged(TooMany, till, till.put, [98, 0])
        self.unchanged(TooMany, till, till.put, [0, 1])
        self.unchanged(TooMany, till, till.put, [97, 1])
        self.unchanged(TooMany, till, till.put, [10 ** 59, 0])
        self.assertIsNone(till.put([97, 0]))
        self.assert_held(till, [100, 100], 600)
        self.assertIsNone(till.put([0, 0]))
        self.unchanged(TooMany, till, till.put, [1, 0])
        self.assert_held(till, [100, 100], 600)

    def test_what_is_no_paying(self):
        till = Till([1, 5, 10], [3, 100, 1])
        for paying in wrong_payings([1, 5, 10]):
            self.unchanged(NoPaying, till, till.put, paying)
        # Ahead of TooMany.
        self.unchanged(NoPaying, till, till.put, [98, 1, -1])
        self.unchanged(NoPaying, till, till.put, [101, 0])
        self.assertIsNone(till.put([1, 0, 0]))
        self.assert_held(till, [4, 100, 1], 514)


class Giving(Tills):
    def test_change_given(self):
        till = Till([1, 5, 10], [3, 2, 1])
        self.assertEqual(till.give(11), [1, 0, 1])
        self.assert_held(till, [2, 2, 0], 12)
        self.assertEqual(till.give(10), [0, 2, 0])
        self.assert_held(till, [2, 0, 0], 2)
        self.unchanged(NoChange, till, till.give, 5)
        self.unchanged(NoChange, till, till.give, 3)
        self.assertEqual(till.give(2), [2, 0, 0])
        self.assert_held(till, [0, 0, 0], 0)
        self.unchanged(NoChange, till, till.give, 1)

    def test_change_of_0(self):
        till = Till([7, 5], [1, 0])
        self.assertEqual(till.give(0), [0, 0])
        self.assert_held(till, [1, 0], 7)
        self.assertEqual(Till([7], [0]).give(0), [0])

    def test_a_fewest_paying(self):
        self.assertEqual(Till([4, 3, 1], [5, 5, 5]).give(6), [0, 2, 0])
        self.assertEqual(Till([4, 3, 1], [5, 1, 5]).give(6), [1, 0, 2])

    def test_up_to_2000(self):
        till = Till([1000, 1], [5, 5])
        self.unchanged(TooMany, till, till.give, 2001)
        self.unchanged(TooMany, till, till.give, 3000)
        self.unchanged(TooMany, till, till.give, 10 ** 59)
        self.assertEqual(till.give(2000), [2, 0])
        self.assert_held(till, [3, 5], 3005)
        # Ahead of NoChange.
        self.unchanged(TooMany, till, till.give, 2999)

    def test_what_is_no_sum(self):
        till = Till([1, 5], [0, 3])
        for amount in WRONG_SUMS:
            self.unchanged(NoSum, till, till.give, amount)
        self.assertEqual(till.give(10), [0, 2])
        self.assert_held(till, [0, 1], 5)

    def test_the_till_goes_on_after_refusals(self):
        till = Till([1, 5, 10], [0, 1, 1])
        self.unchanged(NoChange, till, till.give, 6)
        till.put([1, 0, 0])
        self.assertEqual(till.give(6), [1, 1, 0])
        self.assert_held(till, [0, 0, 1], 10)


class Selling(Tills):
    def test_change_given_back(self):
        till = Till([1, 5, 10], [3, 2, 1])
        self.assertEqual(till.sale(12, [0, 0, 2]), [3, 1, 0])
        self.assert_held(till, [0, 1, 3], 35)
        self.assertEqual(till.sale(10, [5, 2, 0]), [0, 1, 0])
        self.assert_held(till, [5, 2, 3], 45)

    def test_paid_with_just_the_price(self):
        till = Till([1, 5, 10], [3, 2, 1])
        self.assertEqual(till.sale(17, [2, 1, 1]), [0, 0, 0])
        self.assert_held(till, [5, 3, 2], 40)
        self.assertEqual(till.sale(0, [0, 0, 0]), [0, 0, 0])
        self.assert_held(till, [5, 3, 2], 40)

    def test_given_back_out_of_what_was_just_paid(self):
        till = Till([1, 5, 10], [0, 0, 0])
        self.assertEqual(till.sale(10, [0, 1, 1]), [0, 1, 0])
        self.assert_held(till, [0, 0, 1], 10)
        self.assertEqual(till.sale(0, [2, 1, 0]), [2, 1, 0])
        self.assert_held(till, [0, 0, 1], 10)
        # The ten that the till held goes back for two fives.
        self.assertEqual(till.sale(0, [0, 2, 0]), [0, 0, 1])
        self.assert_held(till, [0, 2, 0], 10)

    def test_too_little(self):
        till = Till([1, 5, 10], [3, 2, 1])
        self.unchanged(TooLittle, till, till.sale, 13, [2, 0, 1])
        self.unchanged(TooLittle, till, till.sale, 1, [0, 0, 0])
        self.unchanged(TooLittle, till, till.sale, 10 ** 59, [0, 2, 1])
        self.assertEqual(till.sale(12, [2, 0, 1]), [0, 0, 0])
        self.assert_held(till, [5, 2, 2], 35)

    def test_more_than_a_hundred_ahead_of_giving_back(self):
        till = Till([1, 5], [99, 3])
        # Two would be given back again, so that the till would hold enough room.
        self.unchanged(TooMany, till, till.sale, 0, [2, 0])
        self.unchanged(TooMany, till, till.sale, 2, [2, 0])
        self.assertEqual(till.sale(0, [1, 0]), [1, 0])
        self.assert_held(till, [99, 3], 114)
        self.assertEqual(till.sale(1, [1, 0]), [0, 0])
        self.assert_held(till, [100, 3], 115)
        self.unchanged(TooMany, till, till.sale, 6, [1, 1])
        self.assertEqual(till.sale(3, [0, 1]), [2, 0])
        self.assert_held(till, [98, 4], 118)

    def test_more_than_2000_to_be_given_back(self):
        till = Till([1000, 1], [0, 1])
        self.unchanged(TooMany, till, till.sale, 999, [3, 0])
        self.unchanged(TooMany, till, till.sale, 0, [3, 0])
        self.assertEqual(till.sale(1000, [3, 0]), [2, 0])
        self.assert_held(till, [1, 1], 1001)
        # Ahead of NoChange.
        self.unchanged(TooMany, till, till.sale, 997, [3, 0])

    def test_a_price_above_2000(self):
        till = Till([1000, 1], [0, 1])
        self.assertEqual(till.sale(2999, [3, 0]), [0, 1])
        self.assert_held(till, [3, 0], 3000)
        self.assertEqual(till.sale(97000, [97, 0]), [0, 0])
        self.assert_held(till, [100, 0], 100000)

    def test_no_change(self):
        till = Till([1, 5, 10], [1, 0, 1])
        self.unchanged(NoChange, till, till.sale, 8, [0, 0, 1])
        self.unchanged(NoChange, till, till.sale, 7, [0, 2, 0])
        self.assertEqual(till.sale(9, [0, 2, 0]), [1, 0, 0])
        self.assert_held(till, [0, 2, 1], 20)

    def test_what_is_no_price(self):
        till = Till([1, 5], [3, 3])
        for price in WRONG_SUMS:
            self.unchanged(NoSum, till, till.sale, price, [1, 1])

    def test_what_is_no_paying(self):
        till = Till([1, 5, 10], [3, 2, 1])
        for paying in wrong_payings([1, 5, 10]):
            self.unchanged(NoPaying, till, till.sale, 0, paying)

    def test_the_order_of_refusals(self):
        till = Till([1000, 7], [0, 99])
        self.unchanged(NoSum, till, till.sale, -1, [True, 2])
        self.unchanged(NoSum, till, till.sale, True, [0, 200])
        self.unchanged(NoPaying, till, till.sale, 10 ** 59, [0, -1])
        self.unchanged(NoPaying, till, till.sale, 1, [0, 2, 0])
        self.unchanged(TooLittle, till, till.sale, 15, [0, 2])
        self.unchanged(TooMany, till, till.sale, 13, [0, 2])
        self.unchanged(TooMany, till, till.sale, 2999, [5, 1])
        self.unchanged(NoChange, till, till.sale, 1, [0, 1])
        self.assertEqual(till.sale(0, [0, 1]), [0, 1])
        self.assert_held(till, [0, 99], 693)


class Runs(Tills):
    """Long runs of calls, against what the counts and all payings of few coins tell."""

    def given(self, coins, counts, amount, call, *handed):
        """What the counts are after change of the amount out of these, or None where it is refused."""
        number = fewest_by_coins(coins, counts, amount).get(amount)
        if number is None:
            self.refused(NoChange, call, *handed)
            return None
        paying = call(*handed)
        self.assert_paying(coins, paying, amount)
        self.assertEqual(sum(paying), number)
        left = [count - times for count, times in zip(counts, paying)]
        self.assertGreaterEqual(min(left), 0)
        return left

    def put(self, till, coins, counts, paying):
        more = [count + times for count, times in zip(counts, paying)]
        if max(more) > 100:
            self.refused(TooMany, till.put, paying)
            return None
        self.assertIsNone(till.put(paying))
        return more

    def sale(self, till, coins, counts, price, paying):
        paid = sum(coin * times for coin, times in zip(coins, paying))
        more = [count + times for count, times in zip(counts, paying)]
        if paid < price:
            self.refused(TooLittle, till.sale, price, paying)
            return None
        if max(more) > 100 or paid - price > 2000:
            self.refused(TooMany, till.sale, price, paying)
            return None
        return self.given(coins, more, paid - price, till.sale, price, paying)

    def test_runs(self):
        chance = Random(9)
        for coins, counts in [([1, 5, 10], [3, 2, 1]), ([20, 3, 50, 7], [0, 0, 0, 0]), ([100, 1, 25], [98, 97, 99]),
                              ([999, 500], [2, 2])]:
            till = Till(coins, counts)
            seen = set()
            for _ in range(250):
                paying = [chance.choice([0, 0, 1, 2, 3]) for _ in coins]
                amount = chance.choice([0, 1, chance.randrange(2 * max(coins)), chance.randrange(4 * max(coins))])
                step = chance.choice(["put", "give", "sale", "sale"])
                if step == "put":
                    after = self.put(till, coins, counts, paying)
                elif step == "sale":
                    after = self.sale(till, coins, counts, amount, paying)
                elif amount > 2000:
                    after = self.refused(TooMany, till.give, amount) and None
                else:
                    after = self.given(coins, counts, amount, till.give, amount)
                seen.add((step, after is None))
                counts = counts if after is None else after
                self.assert_held(till, counts, sum(coin * count for coin, count in zip(coins, counts)))
            self.assertTrue({("sale", True), ("sale", False), ("give", True), ("give", False), ("put", False)} <= seen)

    def test_as_fewest_held_and_as_fewest(self):
        for coins, counts in [([1, 5, 10, 25], [100, 100, 100, 100]), ([4, 3, 1], [2, 1, 9]), ([7, 20], [50, 99])]:
            for amount in list(range(60)) + [500, 1000]:
                till = Till(coins, counts)
                told = fewest_held(coins, counts, amount)
                if told is None:
                    self.unchanged(NoChange, till, till.give, amount)
                else:
                    self.assertEqual(sum(till.give(amount)), sum(told))
                unbound = fewest(coins, amount)
                if unbound is not None and all(times <= count for times, count in zip(unbound, counts)):
                    self.assertEqual(sum(told), sum(unbound))


class AloneInTheWorld(Tills):
    def test_lists_handed_in_are_not_kept(self):
        coins, counts = [5, 7], [3, 4]
        till = Till(coins, counts)
        coins[0], counts[1] = 99, 98
        coins.append(1)
        counts.append(1)
        self.assert_held(till, [3, 4], 43)
        paying = [1, 1]
        till.put(paying)
        paying[0] = 50
        self.assert_held(till, [4, 5], 55)
        self.assertEqual(till.give(12), [1, 1])
        self.assert_held(till, [3, 4], 43)
        paid = [0, 2]
        self.assertEqual(till.sale(14, paid), [0, 0])
        paid[1] = 50
        self.assert_held(till, [3, 6], 57)

    def test_lists_handed_in_are_not_changed(self):
        coins, counts, paying = [5, 7, 1], [3, 4, 9], [2, 0, 0]
        till = Till(coins, counts)
        till.put(paying)
        till.sale(8, paying)
        till.give(13)
        self.assertEqual((coins, counts, paying), ([5, 7, 1], [3, 4, 9], [2, 0, 0]))

    def test_lists_that_came_back_may_be_changed(self):
        till = Till([5, 7, 1], [3, 4, 9])
        till.held()[0] = 99
        till.held().append(1)
        self.assert_held(till, [3, 4, 9], 52)
        given = till.give(7)
        self.assertEqual(given, [0, 1, 0])
        given[1] = 50
        self.assert_held(till, [3, 3, 9], 45)
        back = till.sale(5, [1, 0, 0])
        back[0] = 50
        self.assert_held(till, [4, 3, 9], 50)

    def test_a_held_list_stays_as_it_was(self):
        till = Till([5, 7], [3, 4])
        before = till.held()
        till.put([1, 1])
        till.give(5)
        self.assertEqual(before, [3, 4])

    def test_two_tills_of_the_same_lists(self):
        coins, counts = [5, 7], [3, 4]
        first, second = Till(coins, counts), Till(coins, counts)
        first.put([1, 0])
        self.assert_held(second, [3, 4], 43)
        second.give(14)
        self.assert_held(first, [4, 4], 48)
        first.sale(5, [1, 0])
        self.assert_held(first, [5, 4], 53)
        self.assert_held(second, [3, 2], 29)

    def test_fewest_held_remembers_nothing(self):
        counts = [5, 2, 5]
        for _ in range(3):
            self.assertEqual(fewest_held([4, 3, 1], counts, 6), [0, 2, 0])
        self.assertEqual(counts, [5, 2, 5])


class Refusals(Tills):
    def test_a_refusal_can_be_taken_as_a_pay_error(self):
        till = Till([5], [1])
        for call, handed in [(till.put, ([100],)), (till.give, (4,)), (till.sale, (6, [1])), (till.give, (True,))]:
            with self.assertRaises(PayError):
                call(*handed)
        self.assert_held(till, [1], 5)
