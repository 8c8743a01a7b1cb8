"""[15] Mirrored houses with all pairs, others with the least number that tells it."""

from paygaps.errors import TooMany
from paygaps.houses import greatest_gap, house_of, is_house
from paygaps.mirrors import mirror_gap, mirror_pairs
from tests.helping import Case, great_houses, house_truths, houses_gone_through, small_houses

HOUSE = [0, 21, 7, 28, 14]


def mirror_gone_through(house):
    """The least number that can't be paid, nor its partner, one by one, or None."""
    greatest = max(house) - len(house)
    truths = house_truths(house, greatest)
    for number in range(greatest + 1):
        if not truths[number] and not truths[greatest - number]:
            return number
    return None


def pairs_gone_through(house):
    greatest = max(house) - len(house)
    return [(number, greatest - number) for number, truth in enumerate(house_truths(house, greatest)) if truth]


class Mirrors(Case):
    def assert_mirror(self, house):
        gap = mirror_gone_through(house)
        self.assertEqual(mirror_gap(house), gap, house)
        self.assertEqual(mirror_pairs(house), pairs_gone_through(house) if gap is None else None, house)

    def test_ordinary_mirrored_houses(self):
        self.assertEqual(mirror_pairs([0, 3]), [(0, 1)])
        self.assertEqual(mirror_pairs([0, 4, 8]), [(0, 5), (3, 2), (4, 1)])
        self.assertEqual(mirror_pairs([0, 9, 6, 15]), [(0, 11), (4, 7), (6, 5), (8, 3), (9, 2), (10, 1)])
        self.assertEqual(mirror_pairs(HOUSE), [(0, 23), (5, 18), (7, 16), (10, 13), (12, 11), (14, 9), (15, 8),
                                               (17, 6), (19, 4), (20, 3), (21, 2), (22, 1)])
        for house in [[0, 3], [0, 4, 8], [0, 9, 6, 15], HOUSE]:
            self.assertIsNone(mirror_gap(house), house)

    def test_ordinary_houses_that_are_not_mirrored(self):
        for house, gap in [([0, 4, 5], 1), ([0, 7, 5], 2), ([0, 5, 6, 7], 1), ([0, 9, 6, 7], 2), ([0, 7, 8], 1),
                           ([0, 31, 17], 14)]:
            self.assertIsNone(mirror_pairs(house), house)
            self.assert_number(mirror_gap(house))
            self.assertEqual(mirror_gap(house), gap, house)

    def test_the_house_without_gaps(self):
        self.assertEqual(mirror_pairs([0]), [])
        self.assertIsNone(mirror_gap([0]))

    def test_small_houses_gone_through(self):
        for house in small_houses():
            self.assert_mirror(house)

    def test_all_houses_with_up_to_seven_gaps_gone_through(self):
        for number, mirrored in enumerate([1, 1, 1, 2, 3, 3, 6, 8]):
            houses = houses_gone_through(number)
            for house in houses:
                self.assert_mirror(house)
            self.assertEqual([mirror_gap(house) for house in houses].count(None), mirrored)

    def test_the_kinds_of_pairs(self):
        for pair in mirror_pairs(HOUSE):
            self.assertIs(type(pair), tuple)
            self.assertEqual(len(pair), 2)
            self.assert_number(pair[0])
            self.assert_number(pair[1])

    def test_houses_of_two_coins_are_mirrored(self):
        for coins in [[2, 999], [999, 1000], [31, 64], [45, 46], [1, 1000]]:
            self.assertIsNone(mirror_gap(house_of(coins)), coins)

    def test_a_greatest_gap_of_just_2000_and_of_one_less(self):
        # An even greatest gap has a half that is its own partner, so only odd ones can be mirrored.
        for house, greatest in [([0, 1003, 2003], 2000), ([0, 2001], 1999), ([0, 2002, 1001], 1999),
                                ([0, 2002, 1004], 1999)]:
            self.assertIs(is_house(house), True)
            self.assertEqual(greatest_gap(house), greatest)
            self.assert_mirror(house)
        self.assertEqual(mirror_gap([0, 1003, 2003]), 1000)
        self.assertEqual(mirror_gap([0, 2002, 1004]), 998)
        self.assertEqual(mirror_pairs([0, 2001]), [(amount, 1999 - amount) for amount in range(0, 2000, 2)])

    def test_a_greatest_gap_above_2000(self):
        for house, gap in [([0, 2003], None), ([0, 2005, 1002, 1003], None), ([0, 2005, 1006, 1003], 999)]:
            self.assertIs(is_house(house), True)
            self.assertEqual(greatest_gap(house), 2001)
            self.refused(TooMany, mirror_pairs, house)
            self.assertEqual(mirror_gap(house), gap)
            self.assertEqual(mirror_gone_through(house), gap)

    def test_great_houses(self):
        seen = []
        for house in great_houses():
            gap = mirror_gone_through(house)
            seen.append(gap)
            self.assertEqual(mirror_gap(house), gap)
            if greatest_gap(house) > 2000:
                self.refused(TooMany, mirror_pairs, house)
            else:
                self.assert_mirror(house)
        self.assertIn(None, seen)
        self.assertGreater(len(set(seen)), 2)
