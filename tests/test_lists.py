"""[2] Lists that are handed in or come back are each alone in the world."""

from copy import deepcopy

from paygaps.coins import coin_list, share_of, sum_paid
from paygaps.errors import NoPaying, Unclosed
from paygaps.fewest import fewest, fewest_list, greedy, greedy_always
from paygaps.gaps import house_by_gaps
from paygaps.houses import gap_list, gap_number, greatest_gap, house_of, is_house, pays
from paygaps.mirrors import mirror_gap, mirror_pairs
from paygaps.needed import needed_coins, needless_coins
from paygaps.payings import papers_of, paying_of
from paygaps.till import fewest_held
from paygaps.together import common, divided, filled, joined, mixed
from paygaps.tree import children_of, houses_with, parent_of
from paygaps.ways import rule_of, ways_by, ways_list
from tests.helping import Case

HOUSE = [0, 21, 7, 28, 14]

CALLS = [
    (coin_list, ([7, 5, 9],)),
    (coin_list, ([5, 7, 9],)),
    (sum_paid, ([7, 5, 9], [1, 2, 3])),
    (share_of, ([8, 4, 6],)),
    (house_of, ([7, 5, 9],)),
    (house_of, ([9, 1],)),
    (is_house, (HOUSE,)),
    (is_house, ([0, 4, 11],)),
    (pays, (HOUSE, 23)),
    (greatest_gap, (HOUSE,)),
    (gap_number, (HOUSE,)),
    (gap_list, (HOUSE,)),
    (gap_list, ([0],)),
    (paying_of, ([7, 5, 9], 40)),
    (paying_of, ([8, 4, 6], 40)),
    (paying_of, ([7, 5], 0)),
    (papers_of, ([7, 5, 9],)),
    (needed_coins, (HOUSE,)),
    (needed_coins, ([0],)),
    (needless_coins, ([10, 4, 5, 20, 8],)),
    (needless_coins, ([7, 5],)),
    (ways_list, ([7, 5, 9], 40)),
    (rule_of, ([4, 1, 6],)),
    (rule_of, ([3],)),
    (ways_by, ((2, 6, [1, 0, 1, 1, 1, 1, 0, 1, 0, 0, 0, 0]), 10 ** 59)),
    (fewest_list, ([7, 5, 9], 40)),
    (fewest, ([7, 5, 9], 40)),
    (greedy, ([7, 5, 9], 40)),
    (greedy, ([7, 5, 9], 0)),
    (greedy_always, ([5, 10, 1],)),
    (greedy_always, ([4, 3, 1],)),
    (common, (HOUSE, HOUSE)),
    (common, (HOUSE, [0])),
    (common, ([0], HOUSE)),
    (common, (HOUSE, [0, 9, 6, 15])),
    (joined, (HOUSE, HOUSE)),
    (joined, (HOUSE, [0])),
    (joined, ([0, 9, 6, 15], HOUSE)),
    (divided, (HOUSE, 1)),
    (divided, (HOUSE, 3)),
    (divided, ([0], 3)),
    (filled, (HOUSE, 100)),
    (filled, (HOUSE, 12)),
    (filled, ([0], 12)),
    (mixed, (HOUSE, 1, HOUSE, 1)),
    (mixed, (HOUSE, 3, [0, 9, 6, 15], 5)),
    (mixed, ([0], 1, HOUSE, 2)),
    (mirror_pairs, (HOUSE,)),
    (mirror_pairs, ([0],)),
    (mirror_pairs, ([0, 7, 5],)),
    (mirror_gap, ([0, 7, 5],)),
    (house_by_gaps, ([4, 1, 2],)),
    (house_by_gaps, ([],)),
    (parent_of, (HOUSE,)),
    (parent_of, ([0, 3],)),
    (children_of, ([0, 4, 5],)),
    (children_of, ([0],)),
    (houses_with, (0,)),
    (houses_with, (1,)),
    (houses_with, (4,)),
    (fewest_held, ([7, 5, 9], [3, 2, 1], 23)),
    (fewest_held, ([7, 5, 9], [3, 2, 1], 0)),
    (fewest_held, ([7, 5, 9], [3, 2, 1], 1)),
]


def spoil(thing):
    if isinstance(thing, tuple):
        for part in thing:
            spoil(part)
    if isinstance(thing, list):
        for part in thing:
            spoil(part)
        thing.append(99)
        thing[0] = 98


class AloneInTheWorld(Case):
    def test_what_was_handed_in_is_the_same_afterwards(self):
        for call, told in CALLS:
            handed = deepcopy(told)
            call(*handed)
            self.assertEqual(handed, told, call.__name__)

    def test_what_was_handed_in_may_be_changed_afterwards(self):
        for call, told in CALLS:
            handed = deepcopy(told)
            answer = call(*handed)
            before = deepcopy(answer)
            for thing in handed:
                spoil(thing)
            self.assertEqual(answer, before, call.__name__)
            self.assertEqual(call(*deepcopy(told)), before, call.__name__)

    def test_what_came_back_may_be_changed(self):
        for call, told in CALLS:
            handed = deepcopy(told)
            answer = call(*handed)
            before = deepcopy(answer)
            spoil(answer)
            self.assertEqual(handed, told, call.__name__)
            self.assertEqual(call(*handed), before, call.__name__)

    def test_no_paper_is_another_one(self):
        for coins in [[7, 5, 9], [9, 8, 10, 11], [999, 1000]]:
            papers = papers_of(coins)
            self.assertEqual(len({id(paper) for paper in papers}), len(papers))

    def test_no_paying_of_one_answer_is_another_one(self):
        payings = [told[1] for told in needless_coins([10, 4, 5, 20, 8, 12])]
        self.assertEqual(len({id(paying) for paying in payings}), 4)
        told = greedy_always([4, 3, 1])
        self.assertIsNot(told[2], told[3])

    def test_no_house_of_one_answer_is_another_one(self):
        for houses in [children_of([0, 4, 5]), children_of([0] + list(range(10, 18))), houses_with(4)]:
            self.assertEqual(len({id(house) for house in houses}), len(houses))

    def test_a_refusal_leaves_lists_as_they_were(self):
        gaps = [7, 2, 1]
        self.refused(Unclosed, house_by_gaps, gaps)
        self.assertEqual(gaps, [7, 2, 1])
        counts = [101, 0]
        self.refused(NoPaying, fewest_held, [5, 7], counts, 5)
        self.assertEqual(counts, [101, 0])
