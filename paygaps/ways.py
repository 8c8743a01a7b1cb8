"""Ways: how many payings a sum has."""

from paygaps.coins import check_coins, check_listed, check_sum, check_sum_from, share_of_two
from paygaps.errors import TooMany

LONGEST_ROW = 1200


def ways_list(coins, most):
    check_coins(coins)
    check_sum_from(0, most)
    check_listed(most)
    ways = [1] + [0] * most
    for coin in coins:
        # Rising, so that a coin is taken on top of what it has paid itself.
        for amount in range(coin, most + 1):
            ways[amount] = ways[amount] + ways[amount - coin]
    return ways


def rule_of(coins):
    check_coins(coins)
    period = period_of(coins)
    size = period * len(coins)
    if size > LONGEST_ROW:
        raise TooMany("the period times the number of coins is above 1200")
    row = [1] + [0] * (size - 1)
    for coin in coins:
        row = [ways_with(row, place, coin, period) for place in range(size)]
    return (len(coins), period, row)


def period_of(coins):
    period = 1
    for coin in coins:
        period = period * coin // share_of_two(period, coin)
    return period


# row is of the coins so far; one more pays less than the period, and not more
# than the place.
def ways_with(row, place, coin, period):
    return sum([row[place - paid] for paid in range(0, min(period, place + 1), coin)])


# What a coin pays is a part below the period, which the row counts, and whole
# periods, which are shared out among the coins.
def ways_by(rule, amount):
    check_sum(amount)
    if amount < 0:
        return 0
    number = rule[0]
    period = rule[1]
    row = rule[2]
    whole = amount // period
    rest = amount % period
    ways = 0
    for below in range(min(number, whole + 1)):
        ways = ways + row[below * period + rest] * choices(whole - below + number - 1, number - 1)
    return ways


def choices(things, taken):
    found = 1
    for step in range(taken):
        # What is found is a number of choices after each step, so this leaves no rest.
        found = found * (things - step) // (step + 1)
    return found
