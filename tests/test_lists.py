"""[2] Lists that are handed in or come back are each alone in the world."""

from copy import deepcopy

from paygaps.coins import coin_list, share_of, sum_paid
from paygaps.houses import gap_list, gap_number, greatest_gap, house_of, is_house, pays
from paygaps.payings import papers_of, paying_of
from tests.helping import Case

HOUSE = [0, 21, 7, 28, 14]

CALLS = [
    (coin_list, ([7, 5, 9],)),
    (coin_list, ([5, 7, 9],)),
    (sum_paid, ([7, 5, 9], [1, 2, 3])),
    (share_of, ([8, 4, 6],)),
    (house_of, ([7, 5, 9],)),
    (house_of, ([9, 1],)),
    (is_house, (HOUSE,)),
    (is_house, ([0, 4, 11],)),
    (pays, (HOUSE, 23)),
    (greatest_gap, (HOUSE,)),
    (gap_number, (HOUSE,)),
    (gap_list, (HOUSE,)),
    (gap_list, ([0],)),
    (paying_of, ([7, 5, 9], 40)),
    (paying_of, ([8, 4, 6], 40)),
    (paying_of, ([7, 5], 0)),
    (papers_of, ([7, 5, 9],)),
]


def spoil(thing):
    if isinstance(thing, list):
        for part in thing:
            spoil(part)
        thing.append(99)
        thing[0] = 98


class AloneInTheWorld(Case):
    def test_what_was_handed_in_is_the_same_afterwards(self):
        for call, told in CALLS:
            handed = deepcopy(told)
            call(*handed)
            self.assertEqual(handed, told, call.__name__)

    def test_what_was_handed_in_may_be_changed_afterwards(self):
        for call, told in CALLS:
            handed = deepcopy(told)
            answer = call(*handed)
            before = deepcopy(answer)
            for thing in handed:
                spoil(thing)
            self.assertEqual(answer, before, call.__name__)
            self.assertEqual(call(*deepcopy(told)), before, call.__name__)

    def test_what_came_back_may_be_changed(self):
        for call, told in CALLS:
            handed = deepcopy(told)
            answer = call(*handed)
            before = deepcopy(answer)
            spoil(answer)
            self.assertEqual(handed, told, call.__name__)
            self.assertEqual(call(*handed), before, call.__name__)

    def test_no_paper_is_another_one(self):
        for coins in [[7, 5, 9], [9, 8, 10, 11], [999, 1000]]:
            papers = papers_of(coins)
            self.assertEqual(len({id(paper) for paper in papers}), len(papers))
