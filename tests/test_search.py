"""best, least, net and front against a plain search: nothing is worth more, costs less or leaves more than is told."""

import unittest

from helper import (
    LARGEST, Dice, act, asked, begins, best, ends_by_length, ends_without_detour, every_end, front, least, net,
    plain_best, plain_front, plain_least, plain_net, valued, worth,
)


def any_act(dice, sets, most_cost):
    needs, bars = dice.below(sets) & dice.below(sets), dice.below(sets) & dice.below(sets)
    return (needs, bars & ~needs, dice.below(sets), dice.below(sets), 1 + dice.below(most_cost))


def worths_of(dice, sets, most, price):
    return [(dice.below(sets), 1 + dice.below(price)) for number in range(dice.below(most + 1))]


class ComparedWithAPlainSearch(unittest.TestCase):

    def compare(self, facts, first, acts, worths, ends, sums, wanted):
        """Ask for best of these sums, least of what is wanted, net and front, and search these ends for the same."""
        house = [begins(facts, first)] + [act(*parts) for parts in acts] + [worth(*pair) for pair in worths]
        asking = [best(spent) for spent in sums] + [least(much) for much in wanted] + [net(), front()]
        found = valued(ends, worths)
        plain = [plain_best(found, spent) for spent in sums] + [plain_least(found, much) for much in wanted]
        plain += [plain_net(found), plain_front(found)]
        with self.subTest(facts=facts, first=first, acts=acts, worths=worths):
            self.assertEqual(asked(*house, *asking)[len(house):], plain)

    def test_best_in_few_facts(self):
        dice = Dice(1)
        for number in range(300):
            facts = 1 + dice.below(3)
            acts = [any_act(dice, 1 << facts, 3) for k in range(dice.below(5))]
            self.compare_best(facts, dice.below(1 << facts), acts, worths_of(dice, 1 << facts, 4, 3), range(6))

    def test_best_in_many_facts(self):
        dice = Dice(2)
        for number in range(200):
            facts = 4 + dice.below(3)
            acts = [any_act(dice, 1 << facts, 2) for k in range(1 + dice.below(5))]
            self.compare_best(facts, dice.below(1 << facts), acts, worths_of(dice, 1 << facts, 4, 3), (0, 2, 4, 5))

    def compare_best(self, facts, first, acts, worths, sums):
        house = [begins(facts, first)] + [act(*parts) for parts in acts] + [worth(*pair) for pair in worths]
        rows = asked(*house, *[best(spent) for spent in sums])
        for spent, row in zip(sums, rows[len(house):]):
            with self.subTest(first=first, acts=acts, worths=worths, spent=spent):
                self.assertEqual(row, plain_best(valued(every_end(first, acts, spent), worths), spent))

    def test_every_end_there_is(self):
        dice = Dice(4)
        for number in range(300):
            facts = 1 + dice.below(2)
            sets = 1 << facts
            first = dice.below(sets)
            acts = [any_act(dice, sets, 2) for k in range(dice.below(5))]
            # No state is further off than that many acts, and none of them costs more than the dearest.
            enough = (sets - 1) * max([parts[4] for parts in acts], default=0)
            ends = every_end(first, acts, enough)
            self.compare(facts, first, acts, worths_of(dice, sets, 4, 3), ends, (0, 1, 2, enough), range(5))

    def test_three_facts(self):
        dice = Dice(5)
        for number in range(300):
            first = dice.below(8)
            acts = [any_act(dice, 8, 3) for k in range(dice.below(6))]
            ends = ends_without_detour(first, acts)
            self.compare(3, first, acts, worths_of(dice, 8, 6, 3), ends, (1, 3, LARGEST), (1, 2, 4, 6, 9))

    def test_acts_that_bring_one_fact_of_four(self):
        dice = Dice(3)
        for number in range(200):
            acts = [(0, 0, 1 << dice.below(4), 0, 1 + dice.below(3)) for k in range(5)]
            worths = [(dice.below(16), 1 + dice.below(2)) for k in range(6)]
            self.compare(4, 0, acts, worths, ends_without_detour(0, acts), (3, 5, 6), (1, 3, 5, 7, 8))

    def test_acts_that_bring_some_facts_of_six(self):
        dice = Dice(6)
        for number in range(20):
            acts = [(0, 0, 1 << k | 1 << dice.below(6), 0, 1 + dice.below(5)) for k in range(6)]
            worths = [(dice.below(64) & dice.below(64), 1 + dice.below(4)) for k in range(8)]
            self.compare(6, 0, acts, worths, ends_without_detour(0, acts), (3, 6, 9, 12), (2, 4, 8, 12))

    def test_ten_acts_over_six_facts(self):
        dice = Dice(7)
        for number in range(40):
            first = dice.below(64)
            most_cost = (1, 3, 1000)[number % 3]
            acts = [(dice.below(64) & dice.below(64) & dice.below(64), 0, 1 << dice.below(6),
                     dice.below(64) & dice.below(64), 1 + dice.below(most_cost)) for k in range(10)]
            worths = [(dice.below(64), 1 + dice.below(1000)) for k in range(8)]
            ends = ends_by_length(first, acts, 63)
            self.compare(6, first, acts, worths, ends, (2, most_cost * 2, LARGEST), (1, 300, 900, 1500, 2500))
