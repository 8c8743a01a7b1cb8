"""Needed coins of houses, and needless ones of coin lists."""

from paygaps.coins import coin_list
from paygaps.fewest import fewest_paying


# Any other payable sum from 1 on is a least one and the house's length, once
# or oftener: parted already.
def needed_coins(house):
    unparted = [least for least in house[1:] if not is_parted(house, least)]
    return sorted([len(house)] + unparted)


# Both parts of a least sum are least ones too, neither of them with the rest 0:
# from a lower part the other one would lead below the sum.
def is_parted(house, least):
    size = len(house)
    for part in house[1:]:
        left = least - part
        if left > 0 and left >= house[left % size]:
            return True
    return False


def needless_coins(coins):
    kept = []
    needless = []
    # Rising, so that all coins that may pay a coin have been looked at ahead
    # of it; the needless ones among these are paid by the kept ones.
    for coin in coin_list(coins):
        paying = fewest_paying(kept, coin)
        if paying is None:
            kept.append(coin)
        else:
            needless.append((coin, in_order(coins, kept, paying)))
    return needless


def in_order(coins, kept, paying):
    return [paying[kept.index(coin)] if coin in kept else 0 for coin in coins]
