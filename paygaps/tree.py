"""The tree of all houses: parents and children."""

from paygaps.coins import check_sum_from
from paygaps.errors import TooMany
from paygaps.houses import LONGEST_HOUSE, greatest_gap
from paygaps.needed import needed_coins
from paygaps.together import filled

MOST_LISTED_GAPS = 9


def parent_of(house):
    greatest = greatest_gap(house)
    if greatest < 1:
        return None
    # All sums beyond the greatest gap are in the house already.
    return filled(house, greatest)


def children_of(house):
    greatest = greatest_gap(house)
    return [without_coin(house, coin) for coin in needed_coins(house) if coin > greatest]


# coin is a needed one above the greatest gap, so what lies above it goes on
# being paid.
def without_coin(house, coin):
    size = len(house)
    if coin == size:
        # All gaps lie below the least coin: 0 and all above it are left.
        return house_above(size)
    return [least + size if least == coin else least for least in house]


def house_above(gap):
    size = gap + 1
    if size > LONGEST_HOUSE:
        raise TooMany("a child's least needed coin would be above 1000")
    return [0] + list(range(size + 1, 2 * size))


def houses_with(number):
    check_sum_from(0, number)
    if number > MOST_LISTED_GAPS:
        raise TooMany("houses with more than 9 gaps are not listed")
    houses = [[0]]
    for step in range(number):
        houses = children_of_all(houses)
    return houses


# A child has its parent's gaps and one behind them, the coin taken away, and
# each house has one parent alone. So houses sorted by their gaps have children
# sorted by theirs, each once.
def children_of_all(houses):
    children = []
    for house in houses:
        children.extend(children_of(house))
    return children
