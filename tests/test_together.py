"""[13], [14] Houses cut with one another, joined, divided, filled and mixed."""

from itertools import product
from math import gcd

from paygaps.errors import NoSum, Shared, TooMany
from paygaps.houses import greatest_gap, house_of, is_house, pays
from paygaps.together import common, divided, filled, joined, mixed
from tests.helping import NO_NUMBERS, Case, great_houses, house_by_truths, house_truths, small_houses

HOUSE = [0, 21, 7, 28, 14]

# So that all pairs can be gone through, with the one without gaps among them.
SOME_HOUSES = small_houses()[::6]


def house_above(size, bound):
    """The house of the numbers that the size divides and of all above the bound, which it divides too."""
    return [0] + [bound + rest for rest in range(1, size)]


def sums_added(one, other):
    """Truths of the sums of one sum of the first and one of the other, as far as the first go."""
    parts = [amount for amount, truth in enumerate(other) if truth]
    return [any(one[amount - part] for part in parts if part <= amount) for amount in range(len(one))]


def truths_times(house, by, most):
    return [amount % by == 0 and amount // by >= house[amount // by % len(house)] for amount in range(most + 1)]


class HouseCase(Case):
    def assert_house(self, found, truths, told):
        self.assert_numbers(found)
        self.assertIs(is_house(found), True, told)
        self.assertEqual(found, house_by_truths(truths), told)
        self.assertEqual(house_truths(found, len(truths) - 1), truths, told)


class Common(HouseCase):
    def test_ordinary_houses(self):
        self.assertEqual(common([0, 3], [0, 4, 5]), [0, 4, 5])
        self.assertEqual(common([0, 3], [0, 4, 8]), [0, 4, 8])
        self.assertEqual(common(house_of([2, 7]), house_of([3, 4])), [0, 9, 6, 7])

    def test_sums_gone_through(self):
        for house, other in product(SOME_HOUSES, SOME_HOUSES):
            truths = [one and two for one, two in zip(house_truths(house, 200), house_truths(other, 200))]
            self.assert_house(common(house, other), truths, (house, other))

    def test_the_house_without_gaps(self):
        self.assertEqual(common([0], [0]), [0])
        for house in small_houses() + great_houses():
            self.assertEqual(common(house, [0]), house)
            self.assertEqual(common([0], house), house)

    def test_a_house_with_itself(self):
        for house in small_houses() + great_houses():
            self.assertEqual(common(house, house), house)

    def test_great_houses(self):
        for house, other in product(great_houses(), [HOUSE, [0, 3], [0, 999999], [0, 400000, 800000]]):
            sizes = [amount for amount in range(1, 1001) if pays(house, amount) and pays(other, amount)]
            if not sizes:
                self.refused(TooMany, common, house, other)
                self.refused(TooMany, common, other, house)
                continue
            found = common(house, other)
            self.assertIs(is_house(found), True)
            self.assertEqual(len(found), sizes[0])
            self.assertEqual(common(other, house), found)
            for least in found:
                below = least - len(found)
                self.assertTrue(pays(house, least) and pays(other, least))
                # Both pay the length, so where this one is not common, no lower one of the rest is.
                self.assertFalse(pays(house, below) and pays(other, below))

    def test_a_least_sum_of_1000(self):
        expected = [0] + list(range(1001, 2000))
        self.assertEqual(common(house_above(8, 1000), house_above(125, 1000)), expected)
        self.assertEqual(common(house_above(125, 1000), house_above(8, 1000)), expected)
        self.assertEqual(common(expected, expected), expected)
        self.assertEqual(len(common([0, 999999], house_above(500, 999500))), 500)
        self.assertEqual(len(common([0, 999999], house_above(125, 999500))), 250)
        self.assertEqual(len(common(house_above(40, 900000), house_above(125, 900000))), 1000)

    def test_a_least_sum_above_1000_is_refused(self):
        self.refused(TooMany, common, house_above(7, 1001), house_above(143, 1001))
        self.refused(TooMany, common, house_above(143, 1001), house_above(7, 1001))
        self.refused(TooMany, common, [0, 999999], house_above(999, 999000))
        self.refused(TooMany, common, house_above(999, 998001), house_above(1000, 999000))
        self.refused(TooMany, common, house_above(8, 1000), house_above(143, 1001))


class Joined(HouseCase):
    def test_ordinary_houses(self):
        self.assertEqual(joined([0, 3], [0, 4, 5]), [0, 3])
        self.assertEqual(joined([0, 31, 17], [0, 41]), [0, 3])
        self.assertEqual(joined(house_of([5, 7]), house_of([8, 9, 11])), house_of([5, 7, 8, 9, 11]))

    def test_sums_gone_through(self):
        for house, other in product(SOME_HOUSES, SOME_HOUSES):
            truths = sums_added(house_truths(house, 100), house_truths(other, 100))
            self.assert_house(joined(house, other), truths, (house, other))

    def test_the_house_without_gaps(self):
        for house in small_houses() + great_houses():
            self.assertEqual(joined(house, [0]), [0])
            self.assertEqual(joined([0], house), [0])

    def test_a_house_with_itself(self):
        for house in small_houses() + great_houses():
            self.assertEqual(joined(house, house), house)

    def test_the_house_of_both_coin_lists(self):
        for coins, others in [([5, 7], [9, 11]), ([999, 1000], [360, 840, 997]), ([500, 501], [300, 701]),
                              ([997, 1000], [998, 999])]:
            self.assertEqual(joined(house_of(coins), house_of(others)), house_of(coins + others))
            self.assertEqual(joined(house_of(others), house_of(coins)), house_of(coins + others))


class Divided(HouseCase):
    def test_ordinary_houses(self):
        self.assertEqual(divided(HOUSE, 2), [0, 6, 7, 13, 14])
        self.assertEqual(divided([0, 3], 2), [0])
        self.assertEqual(divided([0, 4, 5], 2), [0, 3])

    def test_sums_gone_through(self):
        for house in small_houses():
            for by in list(range(1, 25)) + [50, 99]:
                truths = [pays(house, amount * by) for amount in range(150)]
                self.assert_house(divided(house, by), truths, (house, by))

    def test_by_one(self):
        for house in small_houses() + great_houses():
            self.assertEqual(divided(house, 1), house)

    def test_by_a_payable_number_nothing_is_missing(self):
        for house in small_houses():
            for by in [len(house), max(house) + 1, 10 ** 6, 10 ** 59, 10 ** 60 - 1]:
                self.assertEqual(divided(house, by), [0])

    def test_the_house_without_gaps(self):
        for by in [1, 2, 1000, 10 ** 59]:
            self.assertEqual(divided([0], by), [0])

    def test_great_houses(self):
        self.assertEqual(divided([0, 999999], 3), [0, 333333])
        self.assertEqual(divided([0, 999999], 1001), [0, 999])
        self.assertEqual(divided([0, 999999], 999999), [0])
        self.assertEqual(divided([0, 999999], 999997), [0, 3])
        for house in great_houses():
            for by in [2, 3, 7, 100, 333, 998]:
                found = divided(house, by)
                self.assertIs(is_house(found), True)
                self.assertFalse(any(pays(house, amount * by) for amount in range(1, len(found))))
                for least in found:
                    self.assertTrue(pays(house, least * by))
                    self.assertFalse(pays(house, (least - len(found)) * by))

    def test_no_number_from_1_on(self):
        for by in [0, -1, -2, -10 ** 59] + NO_NUMBERS:
            self.refused(NoSum, divided, HOUSE, by)
            self.refused(NoSum, divided, [0], by)


class Filled(HouseCase):
    def test_ordinary_houses(self):
        self.assertEqual(filled(HOUSE, 12), [0, 16, 7, 13, 14])
        self.assertEqual(filled(HOUSE, 4), [0, 5, 6, 7])
        self.assertEqual(filled(HOUSE, 5), [0, 6, 7, 8, 9])
        self.assertEqual(filled(HOUSE, 23), [0, 21, 7, 23, 14])

    def test_sums_gone_through(self):
        for house in small_houses():
            for start in range(1, 60):
                truths = [truth or amount >= start for amount, truth in enumerate(house_truths(house, 150))]
                self.assert_house(filled(house, start), truths, (house, start))

    def test_from_1_on(self):
        for house in small_houses() + great_houses():
            self.assertEqual(filled(house, 1), [0])

    def test_from_beyond_the_greatest_gap(self):
        for house in small_houses() + great_houses():
            for start in [max(house) + 1, 10 ** 6, 10 ** 59, 10 ** 60 - 1]:
                self.assertEqual(filled(house, start), house)
            gap = greatest_gap(house)
            if gap > 0:
                self.assertEqual(filled(house, gap + 1), house)
                self.assertNotEqual(filled(house, gap), house)

    def test_great_houses(self):
        self.assertEqual(filled([0, 999999], 500000), [0, 500001])
        self.assertEqual(filled([0, 999999], 500001), [0, 500001])
        for house in great_houses():
            for start in [2, 500, 998, 999, 1000, 1001, 5000, 123456]:
                found = filled(house, start)
                self.assertIs(is_house(found), True)
                self.assertEqual(len(found), min(len(house), start))
                for least in found:
                    self.assertTrue(least >= start or pays(house, least))
                    self.assertFalse(least - len(found) >= start or pays(house, least - len(found)))

    def test_no_number_from_1_on(self):
        for start in [0, -1, -2, -10 ** 59] + NO_NUMBERS:
            self.refused(NoSum, filled, HOUSE, start)
            self.refused(NoSum, filled, [0], start)


class Mixed(HouseCase):
    def test_ordinary_houses(self):
        self.assertEqual(mixed([0], 5, [0], 7), [0, 21, 7, 28, 14])
        self.assertEqual(mixed([0], 7, [0], 5), [0, 21, 7, 28, 14])
        self.assertEqual(mixed([0, 3], 3, [0], 7), house_of([6, 9, 7]))
        self.assertEqual(mixed(house_of([5, 7]), 2, house_of([3, 8]), 9), house_of([10, 14, 27, 72]))

    def test_sums_gone_through(self):
        for house, other in product(SOME_HOUSES, SOME_HOUSES):
            for by, to in [(1, 1), (1, 2), (2, 1), (3, 2), (4, 7), (5, 1)]:
                # Long enough for every rest to come: the gaps end ahead of the last length.
                most = by * max(house) + to * max(other) + by * to + by * len(house)
                truths = sums_added(truths_times(house, by, most), truths_times(other, to, most))
                self.assert_house(mixed(house, by, other, to), truths, (house, by, other, to))

    def test_by_one_and_one_is_joined(self):
        for house, other in product(SOME_HOUSES + great_houses()[:5], SOME_HOUSES + [[0, 700000, 800000]]):
            self.assertEqual(mixed(house, 1, other, 1), joined(house, other))

    def test_the_house_of_all_coins_times_the_numbers(self):
        for coins, by, others, to in [([1], 999, [1], 1000), ([5, 7], 140, [1], 999), ([3, 10], 100, [20, 27], 37),
                                      ([1], 1000, [2, 3], 333), ([497, 500], 2, [1], 995), ([31, 32], 31, [25, 27], 36)]:
            expected = house_of([coin * by for coin in coins] + [coin * to for coin in others])
            self.assertEqual(mixed(house_of(coins), by, house_of(others), to), expected)
            self.assertEqual(mixed(house_of(others), to, house_of(coins), by), expected)

    def test_the_greatest_gap_that_the_point_tells(self):
        seen = 0
        for house, other in product(SOME_HOUSES, SOME_HOUSES + great_houses()[4:6]):
            for by, to in product(range(1, 40), [1, 2, 9, 25, 37, 1000]):
                fits = pays(other, by) and pays(house, to) and gcd(by, to) == 1
                if fits and min(by * len(house), to * len(other)) <= 200:
                    seen += 1
                    gap = by * greatest_gap(house) + to * greatest_gap(other) + by * to
                    found = mixed(house, by, other, to)
                    self.assertEqual(greatest_gap(found), gap, (house, by, other, to))
        self.assertGreater(seen, 1000)

    def test_great_numbers_in_great_houses(self):
        found = mixed([0, 999999], 499, [0, 999999], 500)
        self.assertIs(is_house(found), True)
        self.assertEqual(len(found), 998)
        self.assertEqual(min(found[1::2]), 499 * 999999)
        self.assertIs(pays(found, 1000), True)
        self.assertIs(pays(found, 499 * 999999 - 2), False)
        found = mixed([0, 999999], 1000, [0], 1)
        self.assertEqual(found, [0])
        found = mixed([0, 700000, 800000], 333, [1000 * rest for rest in range(999)], 1000)
        self.assertIs(is_house(found), True)
        self.assertEqual(len(found), 999)

    def test_numbers_from_1_to_1000_and_beyond(self):
        self.assertEqual(mixed([0], 1000, [0], 1), [0])
        self.assertEqual(mixed([0], 1, [0], 1000), [0])
        self.assertEqual(mixed([0], 1000, [0], 999), house_of([999, 1000]))
        for wrong in [0, -1, 1001, 1002, 10 ** 59, -10 ** 59] + NO_NUMBERS:
            self.refused(NoSum, mixed, [0], wrong, HOUSE, 1)
            self.refused(NoSum, mixed, [0], 1, HOUSE, wrong)
            self.refused(NoSum, mixed, [0], wrong, HOUSE, wrong)

    def test_numbers_that_share_a_number(self):
        for by, to, share in [(2, 2, 2), (4, 6, 2), (6, 4, 2), (1000, 1000, 1000), (999, 333, 333), (15, 10, 5)]:
            refusal = self.refused(Shared, mixed, HOUSE, by, [0, 3], to)
            self.assert_number(refusal.share)
            self.assertEqual(refusal.share, share)

    def test_a_least_sum_of_1000_and_above(self):
        self.assertEqual(len(mixed([0, 3], 501, [0], 1000)), 1000)
        self.assertEqual(len(mixed([0], 1000, [0, 3], 501)), 1000)
        self.assertEqual(len(mixed(HOUSE, 200, [0, 3], 501)), 1000)
        self.refused(TooMany, mixed, [0, 3], 501, [0, 3], 1000)
        self.refused(TooMany, mixed, HOUSE, 201, [0, 3], 503)
        self.refused(TooMany, mixed, HOUSE, 1000, HOUSE, 999)
        self.refused(TooMany, mixed, house_above(7, 1001), 143, house_above(1000, 2000), 2)

    def test_no_sum_is_told_ahead_of_shared_and_this_ahead_of_too_many(self):
        great = house_above(1000, 2000)
        # Too many are due in all of these, and Shared in most of them.
        self.refused(NoSum, mixed, great, 1002, great, 2)
        self.refused(NoSum, mixed, great, 2, great, 1002)
        self.refused(NoSum, mixed, great, 0, great, 2)
        self.refused(NoSum, mixed, great, 2, great, True)
        self.refused(NoSum, mixed, great, -2, great, 4)
        self.assertEqual(self.refused(Shared, mixed, great, 4, great, 6).share, 2)
        self.assertEqual(self.refused(Shared, mixed, great, 1000, great, 1000).share, 1000)
        self.refused(TooMany, mixed, great, 3, great, 2)
