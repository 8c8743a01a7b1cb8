"""[16] Houses by their gaps, and lists that are the gaps of none."""

from itertools import combinations, permutations

from paygaps.errors import NoGaps, Unclosed
from paygaps.gaps import house_by_gaps
from paygaps.houses import is_house
from tests.helping import NO_NUMBERS, Case, house_by_truths, house_truths, small_houses


def parts_gone_through(gaps):
    """All pairs of sums from 1 on, not in the list, that add up to one in it."""
    return [(one, gap - one) for gap in gaps for one in range(1, gap) if one not in gaps and gap - one not in gaps]


def house_of_the_rest(gaps):
    return house_by_truths([number not in gaps for number in range(2 * max(gaps, default=0) + 3)])


class Closed(Case):
    def assert_house(self, gaps, house):
        found = house_by_gaps(gaps)
        self.assert_numbers(found)
        self.assertEqual(found, house, gaps)

    def test_the_list_of_none(self):
        self.assert_house([], [0])

    def test_ordinary_lists(self):
        self.assert_house([1], [0, 3])
        self.assert_house([1, 3], [0, 5])
        self.assert_house([1, 2], [0, 4, 5])
        self.assert_house([1, 2, 4, 5], [0, 7, 8])
        self.assert_house([1, 2, 3, 4, 6, 8, 9, 11, 13, 16, 18, 23], [0, 21, 7, 28, 14])

    def test_any_order(self):
        for gaps in permutations([1, 2, 3, 5, 7]):
            self.assert_house(list(gaps), [0, 9, 6, 11])
        self.assert_house([23, 1, 18, 2, 16, 3, 13, 4, 11, 6, 9, 8], [0, 21, 7, 28, 14])

    def test_the_gaps_of_small_houses(self):
        for house in small_houses():
            gaps = [number for number, truth in enumerate(house_truths(house, max(house))) if not truth]
            self.assert_house(gaps, house)
            self.assert_house(gaps[::-1], house)
            self.assert_house(gaps[1::2] + gaps[::2], house)

    def test_three_hundred(self):
        self.assert_house(list(range(1, 301)), [0] + list(range(302, 602)))
        self.assert_house(list(range(300, 0, -1)), [0] + list(range(302, 602)))
        self.assert_house(list(range(1, 600, 2)), [0, 601])
        gaps = list(range(1, 450, 3)) + list(range(2, 450, 3))
        self.assertEqual(len(gaps), 300)
        self.assert_house(gaps, [0, 451, 452])

    def test_each_list_of_numbers_up_to_nine(self):
        closed = 0
        for size in range(10):
            for gaps in combinations(range(1, 10), size):
                parts = parts_gone_through(gaps)
                if parts:
                    refusal = self.refused(Unclosed, house_by_gaps, list(gaps))
                    self.assertIn((refusal.one, refusal.other), parts, gaps)
                else:
                    closed += 1
                    self.assert_house(list(gaps), house_of_the_rest(gaps))
                    self.assertIs(is_house(house_by_gaps(list(gaps))), True)
        self.assertGreater(closed, 40)


class NotClosed(Case):
    def assert_unclosed(self, gaps):
        refusal = self.refused(Unclosed, house_by_gaps, gaps)
        for number in (refusal.one, refusal.other):
            self.assert_number(number)
            self.assertGreaterEqual(number, 1)
            self.assertNotIn(number, gaps)
        self.assertIn(refusal.one + refusal.other, gaps)
        return {refusal.one, refusal.other}

    def test_two_unlike_sums(self):
        self.assertEqual(self.assert_unclosed([1, 2, 7]), {3, 4})
        self.assertEqual(self.assert_unclosed([7, 2, 1]), {3, 4})
        self.assertEqual(self.assert_unclosed([3]), {1, 2})
        self.assert_unclosed([1, 2, 3, 9])

    def test_two_sums_that_are_alike(self):
        self.assertEqual(self.assert_unclosed([2]), {1})
        self.assertEqual(self.assert_unclosed([1, 4]), {2})
        self.assertEqual(self.assert_unclosed([1, 2, 6]), {3})
        self.assertEqual(self.assert_unclosed([6, 1, 2]), {3})
        self.assertEqual(self.assert_unclosed(list(range(1, 300)) + [600]), {300})

    def test_where_only_the_last_number_is_wrong(self):
        self.assertEqual(self.assert_unclosed(list(range(1, 300)) + [601]), {300, 301})
        self.assertEqual(self.assert_unclosed([600] + list(range(1, 300))), {300})
        self.assertEqual(self.assert_unclosed(list(range(1, 598, 2)) + [601]), {2, 599})

    def test_numbers_up_to_2000(self):
        self.assert_unclosed([2000])
        self.assert_unclosed([1, 2000])
        self.assert_unclosed([1999])
        self.assert_unclosed(list(range(1701, 2001)))
        self.assert_unclosed(list(range(2000, 1700, -1)))
        self.assert_unclosed(list(range(1, 300)) + [2000])
        self.assert_unclosed([1 + (37 * number) % 2000 for number in range(300)])


class NoGapsAtAll(Case):
    def test_numbers_below_1_or_above_2000(self):
        for wrong in [0, -1, -2, 2001, 2002, 10 ** 59, -10 ** 59]:
            self.refused(NoGaps, house_by_gaps, [wrong])
            self.refused(NoGaps, house_by_gaps, [1, wrong])
            self.refused(NoGaps, house_by_gaps, [wrong, 1, 2])

    def test_a_number_twice(self):
        for gaps in [[1, 1], [1, 2, 1], [1, 2, 3, 3], [2000, 2000], [5, 5, 5]]:
            self.refused(NoGaps, house_by_gaps, gaps)

    def test_no_numbers(self):
        for thing in NO_NUMBERS:
            self.refused(NoGaps, house_by_gaps, [thing])
            self.refused(NoGaps, house_by_gaps, [1, thing])
            self.refused(NoGaps, house_by_gaps, [thing, 1, 2])
            self.refused(NoGaps, house_by_gaps, [1, thing, 2])

    def test_more_than_three_hundred(self):
        self.refused(NoGaps, house_by_gaps, list(range(1, 302)))
        self.refused(NoGaps, house_by_gaps, list(range(1, 603, 2)))
        self.refused(NoGaps, house_by_gaps, list(range(1, 2001)))
        self.refused(NoGaps, house_by_gaps, [1] * 301)

    def test_whatever_their_sums(self):
        # In each of these two sums not in it add up to one in it, too.
        for gaps in [[2, 0], [4, 1, 2001], [2, 2], [2, 3, 3], [2, True], [2, None], [7, "1"], [2, [1]],
                     list(range(2, 303)), list(range(1700, 2001))]:
            self.refused(NoGaps, house_by_gaps, gaps)
