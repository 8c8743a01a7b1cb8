"""Few coins: the fewest that pay a sum, and the greatest first."""

from paygaps.coins import check_coins, check_listed, check_sum, check_sum_from, coin_list
from paygaps.errors import NoOne


def fewest_list(coins, most):
    check_coins(coins)
    check_sum_from(0, most)
    check_listed(most)
    return fewest_numbers(coins, most)


def fewest_numbers(coins, most):
    numbers = [0]
    for amount in range(1, most + 1):
        numbers.append(following_number(coins, numbers))
    return numbers


def following_number(coins, numbers):
    amount = len(numbers)
    before = [numbers[amount - coin] for coin in coins if coin <= amount]
    known = [number for number in before if number is not None]
    if len(known) == 0:
        return None
    return min(known) + 1


def fewest(coins, amount):
    check_coins(coins)
    check_sum(amount)
    check_listed(amount)
    if amount < 0:
        return None
    return fewest_paying(coins, amount)


def fewest_paying(coins, amount):
    numbers = fewest_numbers(coins, amount)
    if numbers[amount] is None:
        return None
    paying = [0] * len(coins)
    left = amount
    while left > 0:
        place = fewest_place(coins, numbers, left)
        paying[place] = paying[place] + 1
        left = left - coins[place]
    return paying


def fewest_place(coins, numbers, amount):
    for place, coin in enumerate(coins):
        if coin <= amount and numbers[amount - coin] == numbers[amount] - 1:
            return place


def greedy(coins, amount):
    check_coins(coins)
    check_sum(amount)
    if amount < 0:
        return None
    return greedy_paying(coins, amount)


def greedy_paying(coins, amount):
    paying = [0] * len(coins)
    left = amount
    for coin in sorted(coins, reverse=True):
        paying[coins.index(coin)] = left // coin
        left = left % coin
    if left > 0:
        return None
    return paying


def greedy_always(coins):
    rising = coin_list(coins)
    if rising[0] > 1:
        raise NoOne("1 is not among the coins")
    # Where 1 is the only coin, this is 1 as it should be.
    bound = sum(rising[-2:])
    numbers = fewest_numbers(coins, bound - 1)
    for amount, number in enumerate(numbers):
        paying = greedy_paying(coins, amount)
        if sum(paying) > number:
            return ("fails", amount, paying, fewest_paying(coins, amount))
    return ("always", bound)
