"""[3] The promise of the whole: what the modules tell agrees."""

from itertools import product

from paygaps.coins import sum_paid
from paygaps.errors import NoChange
from paygaps.fewest import fewest, fewest_list, greedy, greedy_always
from paygaps.gaps import house_by_gaps
from paygaps.houses import gap_list, gap_number, greatest_gap, house_of, is_house, pays
from paygaps.mirrors import mirror_gap, mirror_pairs
from paygaps.needed import needed_coins, needless_coins
from paygaps.payings import papers_of, paying_of
from paygaps.till import Till, fewest_held
from paygaps.together import common, divided, filled, joined, mixed
from paygaps.tree import children_of, houses_with, parent_of
from paygaps.ways import rule_of, ways_by, ways_list
from tests.helping import Case, great_coin_lists, great_houses, house_truths, small_houses, unshared_coin_lists

SOME_COINS = unshared_coin_lists()[::7] + great_coin_lists()[:4]


class Sums(Case):
    def test_a_payable_sum_comes_with_coins_and_another_one_with_none(self):
        for coins in SOME_COINS:
            house = house_of(coins)
            greatest = greatest_gap(house)
            for amount in [0, 1, min(coins), greatest // 2, greatest - 1, greatest, greatest + 1, greatest + 99]:
                paying = paying_of(coins, amount)
                self.assertEqual(paying is not None, pays(house, amount), (coins, amount))
                if paying is not None:
                    self.assertEqual(sum_paid(coins, paying), amount)
                elif amount >= 0:
                    self.assertGreater(house[amount % len(house)], amount)

    def test_each_least_sum_comes_with_coins_and_leads_by_no_coin_below_another(self):
        for coins in SOME_COINS:
            house = house_of(coins)
            self.assertEqual([sum_paid(coins, paper) for paper in papers_of(coins)], house)
            for least, coin in product(house, coins):
                self.assertGreaterEqual(least + coin, house[(least + coin) % len(house)])

    def test_gaps_and_their_number_follow_from_the_least_sums(self):
        for house in small_houses():
            gaps = [amount for amount, truth in enumerate(house_truths(house, max(house))) if not truth]
            self.assertEqual(gap_list(house), gaps)
            self.assertEqual(gap_number(house), len(gaps))
            self.assertEqual(greatest_gap(house), max(gaps, default=-1))


class Coins(Case):
    def test_the_needed_coins_of_a_house_have_that_house(self):
        for house in small_houses():
            self.assertEqual(house_of(needed_coins(house)), house)
        for coins in SOME_COINS:
            needed = needed_coins(house_of(coins))
            self.assertEqual(house_of(needed), house_of(coins))
            self.assertEqual(sorted(needed + [told[0] for told in needless_coins(coins)]), sorted(coins))

    def test_needless_coins_are_paid_by_needed_ones_and_no_needed_one_by_the_others(self):
        for coins in SOME_COINS:
            needless = needless_coins(coins)
            needed = needed_coins(house_of(coins))
            for coin, paying in needless:
                self.assertEqual(sum_paid(coins, paying), coin)
                self.assertLessEqual({other for other, times in zip(coins, paying) if times}, set(needed))
            for coin in needed:
                others = [other for other in coins if other != coin]
                self.assertIsNone(paying_of(others, coin) if others else None)

    def test_ways_by_one_rule(self):
        for coins in [[1], [2, 3], [4, 1, 6], [5, 10, 1], [6, 4]]:
            rule = rule_of(coins)
            ways = ways_list(coins, 300)
            self.assertEqual([ways_by(rule, amount) for amount in range(301)], ways)
            self.assertEqual([number > 0 for number in ways], [number is not None for number in fewest_list(coins, 300)])

    def test_the_greatest_first(self):
        for coins in [[1], [1, 5, 10], [4, 3, 1], [1, 7, 10], [25, 10, 1], [1, 2, 5, 10, 20, 50]]:
            told = greedy_always(coins)
            sums = [sum(greedy(coins, amount)) for amount in range(201)]
            wrong = [amount for amount, number in enumerate(fewest_list(coins, 200)) if sums[amount] > number]
            if told[0] == "always":
                self.assertEqual(wrong, [])
            else:
                self.assertEqual(told[1], wrong[0])
                self.assertEqual(told[2], greedy(coins, wrong[0]))
                self.assertEqual(sum(told[3]), sum(fewest(coins, wrong[0])))


class Houses(Case):
    def test_the_house_by_the_gaps_of_a_house_is_that_house(self):
        for house in small_houses() + [[0] + list(range(302, 602)), [0, 601]]:
            self.assertEqual(house_by_gaps(gap_list(house)), house)
        for number in range(10):
            for house in houses_with(number):
                self.assertEqual(house_by_gaps(gap_list(house)), house)

    def test_houses_of_houses_are_houses(self):
        for house, other in product(small_houses()[::12], small_houses()[::15]):
            for found in [common(house, other), joined(house, other), divided(house, 3), filled(house, 9),
                          mixed(house, 2, other, 3)]:
                self.assertIs(is_house(found), True)
                self.assertEqual(house_by_gaps(gap_list(found)), found)

    def test_common_and_joined_houses_lie_around_both(self):
        for house, other in product(small_houses()[::12], small_houses()[::15]):
            self.assertEqual(common(common(house, other), house), common(house, other))
            self.assertEqual(joined(joined(house, other), house), joined(house, other))
            self.assertEqual(set(gap_list(common(house, other))), set(gap_list(house)) | set(gap_list(other)))

    def test_mirrored_houses_have_as_many_pairs_as_gaps(self):
        for house in small_houses():
            pairs = mirror_pairs(house)
            self.assertEqual(pairs is None, mirror_gap(house) is not None)
            self.assertEqual(pairs is not None, 2 * gap_number(house) == greatest_gap(house) + 1)
            for amount, partner in pairs or []:
                self.assertIs(pays(house, amount), True)
                self.assertIs(pays(house, partner), False)
                self.assertEqual(amount + partner, greatest_gap(house))


class Tree(Case):
    def test_by_parents_to_the_house_without_gaps(self):
        for house in small_houses():
            for _ in range(gap_number(house)):
                self.assertNotEqual(house, [0])
                house = parent_of(house)
            self.assertEqual(house, [0])

    def test_a_parent_is_the_house_filled_from_its_greatest_gap(self):
        for house in small_houses() + great_houses():
            if house != [0]:
                self.assertEqual(parent_of(house), filled(house, greatest_gap(house)))

    def test_each_house_hangs_once_in_the_tree(self):
        for number in range(9):
            children = [child for house in houses_with(number) for child in children_of(house)]
            self.assertEqual(sorted(children), sorted(houses_with(number + 1)))

    def test_the_list_of_those_with_so_many_gaps_is_whole(self):
        for house in small_houses():
            if gap_number(house) <= 9:
                self.assertEqual(houses_with(gap_number(house)).count(house), 1)


class Tills(Case):
    def test_what_a_till_gives(self):
        for coins, counts in product([[1, 5, 10], [10, 3, 7], [4, 3, 1]], [[0, 4, 2], [9, 1, 3], [100, 100, 100]]):
            for amount in range(60):
                till = Till(coins, counts)
                told = fewest_held(coins, counts, amount)
                unbound = fewest(coins, amount)
                if told is None:
                    self.refused(NoChange, till.give, amount)
                    self.assertTrue(unbound is None or any(one > two for one, two in zip(unbound, counts)))
                    continue
                given = till.give(amount)
                self.assert_paying(coins, given, amount)
                self.assertEqual(sum(given), sum(told))
                self.assertGreaterEqual(sum(given), sum(unbound))
                if min(counts) >= 100:
                    self.assertEqual(sum(given), sum(unbound))
                self.assertEqual(till.worth(), sum_paid(coins, counts) - amount)
                self.assertEqual(till.held(), [one - two for one, two in zip(counts, given)])
