"""Payings: how a sum is paid."""

from paygaps.coins import check_sum, share_of
from paygaps.houses import house_of, pays


def paying_of(coins, amount):
    share = share_of(coins)
    check_sum(amount)
    if amount % share != 0:
        return None
    return paying_unshared([coin // share for coin in coins], amount // share)


def paying_unshared(coins, amount):
    house = house_of(coins)
    if not pays(house, amount):
        return None
    least_coin = len(house)
    rest = amount % least_coin
    paying = papers_in(coins, house)[rest]
    more = (amount - house[rest]) // least_coin
    return with_more(paying, coins.index(least_coin), more)


def papers_of(coins):
    return papers_in(coins, house_of(coins))


def papers_in(coins, house):
    size = len(house)
    papers = [[0] * len(coins) for least in house]
    # Rising, so that the paper of what is left without one coin is there.
    for amount in sorted(house):
        if amount > 0:
            place = last_place(coins, house, amount)
            left = amount - coins[place]
            papers[amount % size] = with_more(papers[left % size], place, 1)
    return papers


# A least sum above 0 less one of the coins that pay it is a least sum too:
# from a lower one of that rest the coin would lead below the first.
def last_place(coins, house, amount):
    for place, coin in enumerate(coins):
        left = amount - coin
        if house[left % len(house)] == left:
            return place


def with_more(paying, place, times):
    more = list(paying)
    more[place] = more[place] + times
    return more
