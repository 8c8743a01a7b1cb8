"""Houses of houses: common, joined, divided, filled and mixed ones."""

from paygaps.coins import check_sum_from, is_number, share_of_two
from paygaps.errors import NoSum, Shared, TooMany
from paygaps.houses import LONGEST_HOUSE, lower_rest, pays, with_coin

GREATEST_FACTOR = 1000


def common(house, other):
    size = least_common(house, other)
    first = sums_by_rests(house, len(house), size)
    second = sums_by_rests(other, len(other), size)
    # Both houses pay the size, so from its least sum on each pays all of a rest.
    return [max(one, two) for one, two in zip(first, second)]


def least_common(house, other):
    for amount in range(1, LONGEST_HOUSE + 1):
        if pays(house, amount) and pays(other, amount):
            return amount
    raise TooMany("the least common sum from 1 on is above 1000")


# The least one for each rest by size of the sums that come of the given ones
# by the step, taken as often as one likes; None where there is none.
def sums_by_rests(given, step, size):
    sums = [None] * size
    for amount in given:
        lower_rest(sums, amount)
    return with_coin(sums, step)


def joined(house, other):
    return mixed_unchecked(house, 1, other, 1)


def divided(house, by):
    check_sum_from(1, by)
    return house_by_sums([least_divided(house, by, rest) for rest in range(len(house))])


def least_divided(house, by, rest):
    size = len(house)
    goal = house[rest * by % size]
    start = (goal + by - 1) // by
    return first_from(start, rest, size)


def first_from(start, rest, size):
    return start + (rest - start) % size


def filled(house, start):
    check_sum_from(1, start)
    size = len(house)
    return house_by_sums([min(least, first_from(start, rest, size)) for rest, least in enumerate(house)])


# sums are the least ones of what can be paid, one for each rest by how many
# they are. This number can be paid, but perhaps it is not the least from 1 on.
def house_by_sums(sums):
    size = min([len(sums)] + sums[1:])
    return sums_by_rests(sums, len(sums), size)


def mixed(house, by, other, to):
    check_factor(by)
    check_factor(to)
    share = share_of_two(by, to)
    if share > 1:
        raise Shared(share)
    if least_mixed(house, by, other, to) > LONGEST_HOUSE:
        raise TooMany("the least mixed sum from 1 on is above 1000")
    return mixed_unchecked(house, by, other, to)


def check_factor(number):
    if not is_number(number) or number < 1 or number > GREATEST_FACTOR:
        raise NoSum("houses are mixed by numbers from 1 to 1000")


def least_mixed(house, by, other, to):
    return min(by * len(house), to * len(other))


def mixed_unchecked(house, by, other, to):
    size = least_mixed(house, by, other, to)
    first = sums_times(house, by, size)
    second = sums_times(other, to, size)
    sums = [None] * size
    for one in first:
        for two in second:
            lower_rest(sums, one + two)
    return sums


def sums_times(house, by, size):
    sums = sums_by_rests([least * by for least in house], len(house) * by, size)
    # Times a number not all rests need to come.
    return [amount for amount in sums if amount is not None]
