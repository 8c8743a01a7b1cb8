"""Mirrored houses: of each number and its partner just one can be paid."""

from paygaps.houses import gap_list, greatest_gap, pays


def mirror_pairs(house):
    gaps = gap_list(house)
    if mirror_gap(house) is not None:
        return None
    greatest = greatest_gap(house)
    # Here the partners of the sums that can be paid are just the gaps.
    return [(greatest - gap, gap) for gap in reversed(gaps)]


# No number and its partner can both be paid: added they are the greatest gap.
# Among the partners of one rest the greatest that can't be paid lies a length
# below the least sum, and it is the partner of the least number.
def mirror_gap(house):
    greatest = max(house)
    numbers = [greatest - least for least in house]
    return min([number for number in numbers if not pays(house, number)], default=None)
