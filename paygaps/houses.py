"""Houses: the least sums that can be paid, one for each rest."""

from paygaps.coins import check_sum, is_number, share_of, share_of_two
from paygaps.errors import Shared, TooMany

LONGEST_HOUSE = 1000
GREATEST_LISTED_GAP = 2000


def house_of(coins):
    share = share_of(coins)
    if share > 1:
        raise Shared(share)
    house = [0] + [None] * (min(coins) - 1)
    for coin in coins:
        house = with_coin(house, coin)
    return house


# sums are the least ones by some coins, None where a rest has none yet; one
# more coin leads round the rests in as many rings as it shares with their
# number.
def with_coin(sums, coin):
    size = len(sums)
    lower = list(sums)
    rings = share_of_two(size, coin)
    for start in range(rings):
        # Twice round: what is least in the ring may stand anywhere in it, and
        # from there a whole round is needed.
        for step in range(2 * (size // rings)):
            place = (start + step * coin) % size
            lower_next(lower, place, coin)
    return lower


def lower_next(sums, place, coin):
    if sums[place] is None:
        return
    lower_rest(sums, sums[place] + coin)


def lower_rest(sums, amount):
    rest = amount % len(sums)
    if sums[rest] is None or amount < sums[rest]:
        sums[rest] = amount


def is_house(numbers):
    if len(numbers) < 1 or len(numbers) > LONGEST_HOUSE:
        return False
    if not all([is_number(number) for number in numbers]):
        return False
    return has_right_rests(numbers) and is_closed(numbers)


def has_right_rests(numbers):
    size = len(numbers)
    if numbers[0] != 0:
        return False
    for place in range(1, size):
        if numbers[place] <= size or numbers[place] % size != place:
            return False
    return True


def is_closed(numbers):
    size = len(numbers)
    for first in range(size):
        for second in range(first, size):
            if numbers[first] + numbers[second] < numbers[(first + second) % size]:
                return False
    return True


def pays(house, amount):
    check_sum(amount)
    # A sum below 0 is below every least sum, so it needs no case of its own.
    return amount >= house[amount % len(house)]


def greatest_gap(house):
    # Without gaps the house is [0], and this is -1 as it should be.
    return max(house) - len(house)


def gap_number(house):
    # The gaps of one rest lie a length apart, from the rest itself up to just
    # below its least sum.
    return sum([least // len(house) for least in house])


def gap_list(house):
    greatest = greatest_gap(house)
    if greatest > GREATEST_LISTED_GAP:
        raise TooMany("the greatest gap is above 2000")
    return [number for number in range(1, greatest + 1) if not pays(house, number)]
