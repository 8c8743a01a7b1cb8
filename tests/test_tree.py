"""[17], [18] The tree of all houses: parents, children, and all houses with so many gaps."""

from paygaps.errors import NoSum, TooMany
from paygaps.houses import gap_list, gap_number, greatest_gap, house_of, is_house
from paygaps.needed import needed_coins
from paygaps.tree import children_of, houses_with, parent_of
from tests.helping import (
    NO_NUMBERS, Case, great_houses, house_by_truths, house_truths, houses_gone_through, small_houses,
)

HOUSE = [0, 21, 7, 28, 14]


def with_gap_paid(house):
    """The house with its greatest gap put to its sums, gone through one by one."""
    greatest = max(house) - len(house)
    truths = house_truths(house, max(house) + len(house))
    truths[greatest] = True
    return house_by_truths(truths)


def without_each_coin(house):
    """The houses without one of the coins that are needed and above the greatest gap, gone through one by one."""
    truths = house_truths(house, max(house) + 3 * len(house) + 3)
    paid = [amount for amount in range(1, len(truths)) if truths[amount]]
    houses = []
    for coin in range(max(house) - len(house) + 1, max(house) + len(house) + 1):
        if coin in paid and not any(truths[coin - part] for part in paid if part < coin):
            houses.append(house_by_truths(truths[:coin] + [False] + truths[coin + 1:]))
    return houses


class Parents(Case):
    def test_the_house_without_gaps(self):
        self.assertIsNone(parent_of([0]))

    def test_houses_with_one_gap_and_with_two(self):
        self.assertEqual(parent_of([0, 3]), [0])
        self.assertEqual(parent_of([0, 5]), [0, 3])
        self.assertEqual(parent_of([0, 4, 5]), [0, 3])

    def test_ordinary_houses(self):
        self.assertEqual(parent_of(HOUSE), [0, 21, 7, 23, 14])
        self.assertEqual(parent_of([0, 5, 6, 7]), [0, 4, 5])
        self.assertEqual(parent_of([0, 31, 17]), [0, 28, 17])

    def test_sums_gone_through(self):
        for house in small_houses():
            if house != [0]:
                parent = parent_of(house)
                self.assert_numbers(parent)
                self.assertEqual(parent, with_gap_paid(house), house)

    def test_great_houses(self):
        self.assertEqual(parent_of([0, 999999]), [0, 999997])
        self.assertEqual(parent_of([0] + list(range(1001, 2000))), [0] + list(range(1000, 1998)))
        self.assertEqual(parent_of([1001 * rest for rest in range(1000)]),
                         [1001 * rest for rest in range(999)] + [998999])
        for house in great_houses():
            parent = parent_of(house)
            self.assertIs(is_house(parent), True)
            self.assertEqual(parent, with_gap_paid(house))


class Children(Case):
    def test_ordinary_houses(self):
        self.assertEqual(children_of([0]), [[0, 3]])
        self.assertEqual(children_of([0, 3]), [[0, 4, 5], [0, 5]])
        self.assertEqual(children_of([0, 4, 5]), [[0, 5, 6, 7], [0, 7, 5], [0, 4, 8]])
        self.assertEqual(children_of([0, 5]), [[0, 7]])

    def test_houses_without_children(self):
        for house in [HOUSE, [0, 4, 8], [0, 9, 6, 15], house_of([999, 1000])]:
            self.assertEqual(children_of(house), [])

    def test_sums_gone_through_in_the_order_of_the_coins(self):
        for house in small_houses():
            children = children_of(house)
            self.assertIs(type(children), list)
            for child in children:
                self.assert_numbers(child)
            self.assertEqual(children, without_each_coin(house), house)

    def test_the_parent_of_each_child(self):
        for house in small_houses():
            for child in children_of(house):
                self.assertIs(is_house(child), True)
                self.assertEqual(parent_of(child), house)

    def test_each_house_is_a_child_of_its_parent(self):
        for house in small_houses():
            if house != [0]:
                self.assertEqual(children_of(parent_of(house)).count(house), 1, house)

    def test_a_least_needed_coin_of_just_1000(self):
        house = [0] + list(range(1000, 1998))
        children = children_of(house)
        self.assertEqual(len(children), 999)
        self.assertEqual(children[0], [0] + list(range(1001, 2000)))
        self.assertEqual(children[1], [0, 1999] + list(range(1001, 1998)))
        self.assertEqual(children[-1], [0] + list(range(1000, 1997)) + [2996])

    def test_a_least_needed_coin_above_1000_is_refused(self):
        self.refused(TooMany, children_of, [0] + list(range(1001, 2000)))

    def test_houses_of_1000_numbers_that_keep_their_least_coin(self):
        house = [0, 2001] + list(range(1002, 2000))
        children = children_of(house)
        coins = [coin for coin in needed_coins(house) if coin > 1001]
        self.assertEqual(coins, list(range(1002, 2000)) + [2001])
        self.assertEqual(children, [[least + 1000 * (least == coin) for least in house] for coin in coins])
        self.assertEqual(children_of([1001 * rest for rest in range(1000)]), [])

    def test_great_houses(self):
        self.assertEqual(children_of([0, 999999]), [[0, 1000001]])
        self.assertEqual(children_of([0, 700000, 800000]), [[0, 700000, 800003]])
        house = [0] + list(range(999001, 1000000))
        children = children_of(house)
        self.assertEqual(len(children), 999)
        for place, child in enumerate(children, start=1):
            self.assertEqual(child, house[:place] + [house[place] + 1000] + house[place + 1:])
        for child in children[::100]:
            self.assertEqual(parent_of(child), house)


class Steps(Case):
    def test_as_many_steps_as_gaps(self):
        for house in small_houses() + [[0] + list(range(1001, 2000)), [0, 2001], [0, 1003, 2003]]:
            steps = 0
            gaps = gap_list(house)
            while house != [0]:
                self.assertEqual(greatest_gap(house), gaps.pop())
                house = parent_of(house)
                self.assertEqual(gap_number(house), len(gaps))
                steps += 1
            self.assertEqual(gaps, [])
            self.assertIsNone(parent_of(house))


class HousesWith(Case):
    def test_few_gaps(self):
        self.assertEqual(houses_with(0), [[0]])
        self.assertEqual(houses_with(1), [[0, 3]])
        self.assertEqual(houses_with(2), [[0, 4, 5], [0, 5]])
        self.assertEqual(houses_with(3), [[0, 5, 6, 7], [0, 7, 5], [0, 4, 8], [0, 7]])
        self.assertEqual(houses_with(4), [[0, 6, 7, 8, 9], [0, 9, 6, 7], [0, 5, 10, 7], [0, 5, 6, 11], [0, 7, 8],
                                          [0, 10, 5], [0, 9]])

    def test_all_lists_of_gaps_gone_through(self):
        for number in range(10):
            houses = houses_with(number)
            self.assertEqual(houses, houses_gone_through(number))
            for house in houses:
                self.assert_numbers(house)

    def test_each_once_and_sorted_by_lists_of_gaps(self):
        for number, size in enumerate([1, 1, 2, 4, 7, 12, 23, 39, 67, 118]):
            gaps = [gap_list(house) for house in houses_with(number)]
            self.assertEqual(len(gaps), size)
            self.assertEqual(gaps, sorted(gaps))
            self.assertEqual(len({tuple(told) for told in gaps}), size)
            self.assertEqual({len(told) for told in gaps}, {number})

    def test_above_9(self):
        for number in [10, 11, 100, 10 ** 59]:
            self.refused(TooMany, houses_with, number)

    def test_no_number_from_0_on(self):
        for number in [-1, -2, -10, -10 ** 59] + NO_NUMBERS:
            self.refused(NoSum, houses_with, number)
