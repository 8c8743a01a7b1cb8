"""Houses by their gaps."""

from paygaps.coins import is_number
from paygaps.errors import NoGaps, Unclosed

MOST_GAPS = 300
GREATEST_GAP = 2000


def house_by_gaps(gaps):
    check_gaps(gaps)
    missing = dict([(gap, True) for gap in gaps])
    for gap in gaps:
        check_closed(missing, gap)
    size = first_sum(missing, 1, 1)
    return [first_sum(missing, rest, size) for rest in range(size)]


def check_gaps(gaps):
    if len(gaps) > MOST_GAPS:
        raise NoGaps("gaps are at most three hundred")
    # Ahead of the look for likes: what is no number may be unfit for a set.
    if not all([is_gap(gap) for gap in gaps]):
        raise NoGaps("each gap is a number from 1 to 2000")
    if len(set(gaps)) < len(gaps):
        raise NoGaps("no two gaps are alike")


def is_gap(thing):
    return is_number(thing) and 1 <= thing and thing <= GREATEST_GAP


def check_closed(missing, gap):
    # Up to the half: beyond it the same two come again.
    for one in range(1, gap // 2 + 1):
        other = gap - one
        if one not in missing and other not in missing:
            raise Unclosed(one, other)


def first_sum(missing, start, step):
    amount = start
    while amount in missing:
        amount = amount + step
    return amount
