"""Coins, their payings, and what they share."""

from paygaps.errors import NoCoins, NoPaying, NoSum, TooMany

MOST_COINS = 40
GREATEST_COIN = 1000
GREATEST_LISTED_SUM = 2000


def is_number(thing):
    # Python takes True and False for whole numbers, the document does not.
    return isinstance(thing, int) and not isinstance(thing, bool)


def is_coin(thing):
    return is_number(thing) and 1 <= thing and thing <= GREATEST_COIN


def check_coins(coins):
    if len(coins) < 1 or len(coins) > MOST_COINS:
        raise NoCoins("coins are at least one and at most forty")
    # Ahead of the look for likes: what is no number may be unfit for a set.
    if not all([is_coin(coin) for coin in coins]):
        raise NoCoins("each coin is a number from 1 to 1000")
    if len(set(coins)) < len(coins):
        raise NoCoins("no two coins are alike")


def check_paying(coins, paying):
    if len(paying) != len(coins):
        raise NoPaying("a paying has one number for each coin")
    if not all([is_number(times) and times >= 0 for times in paying]):
        raise NoPaying("a paying has numbers from 0 on")


def check_sum(amount):
    if not is_number(amount):
        raise NoSum("an amount is a number")


def check_sum_from(least, amount):
    if not is_number(amount) or amount < least:
        raise NoSum(f"this is no number from {least} on")


def check_listed(amount):
    if amount > GREATEST_LISTED_SUM:
        raise TooMany("sums above 2000 are not gone through")


def coin_list(coins):
    check_coins(coins)
    return sorted(coins)


def sum_paid(coins, paying):
    check_coins(coins)
    check_paying(coins, paying)
    return sum([coin * times for coin, times in zip(coins, paying)])


def share_of(coins):
    check_coins(coins)
    share = 0
    for coin in coins:
        share = share_of_two(share, coin)
    return share


def share_of_two(one, other):
    greater = one
    less = other
    while less > 0:
        rest = greater % less
        greater = less
        less = rest
    return greater
