"""A till, in which there are only so many of each coin."""

from paygaps.coins import check_coins, check_listed, check_paying, check_sum_from, sum_paid
from paygaps.errors import NoChange, NoPaying, TooLittle, TooMany

MOST_HELD = 100
# More than any paying takes: forty coins, a hundred of each.
UNPAID = 4001


def fewest_held(coins, counts, amount):
    check_coins(coins)
    check_counts(coins, counts)
    check_sum_from(0, amount)
    check_listed(amount)
    return held_paying(coins, counts, amount)


def check_counts(coins, counts):
    check_paying(coins, counts)
    if max(counts) > MOST_HELD:
        raise NoPaying("counts are numbers from 0 to 100")


def held_paying(coins, counts, amount):
    bundles = bundles_of(counts)
    tables = fewest_tables(coins, bundles, amount)
    if tables[-1][amount] == UNPAID:
        return None
    paying = [0] * len(coins)
    left = amount
    for before in range(len(bundles) - 1, -1, -1):
        # Where a bundle made the number less, it is taken, else it can be left.
        if tables[before + 1][left] < tables[before][left]:
            place = bundles[before][0]
            times = bundles[before][1]
            paying[place] = paying[place] + times
            left = left - coins[place] * times
    return paying


# Tuples (place, times). Each bundle is taken whole or not at all, and those of
# one place make up every number up to its count: so few steps do for many coins.
def bundles_of(counts):
    bundles = []
    for place, count in enumerate(counts):
        times = 1
        left = count
        while left > 0:
            taken = min(times, left)
            bundles.append((place, taken))
            left = left - taken
            times = 2 * times
    return bundles


# For each number of bundles, from none on, a list of how many coins pay each
# sum up to the amount at the fewest by these first bundles.
def fewest_tables(coins, bundles, amount):
    tables = [[0] + [UNPAID] * amount]
    for place, times in bundles:
        tables.append(with_bundle(tables[-1], times, coins[place] * times))
    return tables


def with_bundle(numbers, times, worth):
    fewer = [min(without, left + times) for without, left in zip(numbers[worth:], numbers)]
    return numbers[:worth] + fewer


class Till:
    def __init__(self, coins, counts):
        check_coins(coins)
        check_counts(coins, counts)
        self.coins = list(coins)
        self.counts = list(counts)

    def held(self):
        return list(self.counts)

    def worth(self):
        return sum_paid(self.coins, self.counts)

    def put(self, paying):
        check_paying(self.coins, paying)
        self.counts = counts_with(self.counts, paying)

    def give(self, amount):
        check_sum_from(0, amount)
        check_listed(amount)
        return self.give_of(self.counts, amount)

    def sale(self, price, paying):
        check_sum_from(0, price)
        change = sum_paid(self.coins, paying) - price
        if change < 0:
            raise TooLittle("the price is more than what is paid")
        counts = counts_with(self.counts, paying)
        check_listed(change)
        return self.give_of(counts, change)

    # counts are what the till holds if nothing is refused: only here they are
    # kept, so that a refused sale puts nothing in.
    def give_of(self, counts, amount):
        given = held_paying(self.coins, counts, amount)
        if given is None:
            raise NoChange("what the till holds does not pay this")
        self.counts = [count - times for count, times in zip(counts, given)]
        return given


def counts_with(counts, paying):
    more = [count + times for count, times in zip(counts, paying)]
    if max(more) > MOST_HELD:
        raise TooMany("a till holds at most a hundred of a coin")
    return more
