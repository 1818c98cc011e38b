"""front: the pairs of cost and worth that no other end beats, rising, each once."""

import unittest

from helper import act, asked, begins, best, counting_acts, front, last, least, start, worth


class WhichPairs(unittest.TestCase):

    def test_no_act_and_nothing_worth_anything(self):
        self.assertEqual(last(front()), [1, 0, 0])

    def test_no_act(self):
        self.assertEqual(last(begins(2, 1), worth(1, 5), worth(2, 7), front()), [1, 0, 5])

    def test_nothing_worth_anything(self):
        self.assertEqual(last(begins(2, 0), act(0, 0, 1, 0, 1), act(0, 0, 2, 0, 2), front()), [1, 0, 0])

    def test_the_end_with_no_act_is_the_first_pair(self):
        rows = asked(begins(2, 1), act(0, 0, 2, 1, 3), worth(1, 5), worth(2, 6), front(), start(0), front())
        self.assertEqual([rows[4], rows[6]], [[2, 0, 5, 3, 6], [2, 0, 0, 3, 6]])

    def test_as_much_for_more_than_nothing_is_not_told(self):
        self.assertEqual(last(begins(2, 1), act(0, 0, 2, 1, 3), worth(1, 5), worth(2, 5), front()), [1, 0, 5])

    def test_the_same_cost_and_different_worth(self):
        for prices in ((5, 6), (6, 5)):
            with self.subTest(prices=prices):
                rows = asked(begins(2, 0), act(0, 3, 1, 0, 4), act(0, 3, 2, 0, 4),
                             worth(1, prices[0]), worth(2, prices[1]), front())
                self.assertEqual(rows[-1], [2, 0, 0, 4, 6])

    def test_the_same_worth_at_different_costs(self):
        for costs in ((4, 5), (5, 4)):
            with self.subTest(costs=costs):
                rows = asked(begins(2, 0), act(0, 3, 1, 0, costs[0]), act(0, 3, 2, 0, costs[1]),
                             worth(1, 6), worth(2, 6), front())
                self.assertEqual(rows[-1], [2, 0, 0, 4, 6])

    def test_worth_less_for_more(self):
        rows = asked(begins(2, 0), act(0, 3, 1, 0, 4), act(0, 3, 2, 0, 5), worth(1, 6), worth(2, 5), front())
        self.assertEqual(rows[-1], [2, 0, 0, 4, 6])

    def test_a_little_more_for_a_little_more(self):
        rows = asked(begins(2, 0), act(0, 3, 1, 0, 4), act(0, 3, 2, 0, 5), worth(1, 6), worth(2, 7), front())
        self.assertEqual(rows[-1], [3, 0, 0, 4, 6, 5, 7])

    def test_two_states_with_the_same_pair_are_told_once(self):
        rows = asked(begins(2, 0), act(0, 3, 1, 0, 4), act(0, 3, 2, 0, 4), worth(1, 6), worth(2, 6), front())
        self.assertEqual(rows[-1], [2, 0, 0, 4, 6])

    def test_two_ways_into_one_state_are_told_once(self):
        rows = asked(begins(2, 0), act(0, 0, 1, 0, 4), act(0, 0, 2, 0, 4), worth(3, 6), front())
        self.assertEqual(rows[-1], [2, 0, 0, 8, 6])

    def test_a_dearer_way_into_the_same_state_is_not_told(self):
        rows = asked(act(0, 0, 1, 0, 9), act(0, 0, 1, 0, 4), act(0, 0, 0, 0, 1), worth(1, 6), front())
        self.assertEqual(rows[-1], [2, 0, 0, 4, 6])

    def test_what_costs_more_than_it_is_worth_is_told_too(self):
        self.assertEqual(last(act(0, 0, 1, 0, 1000), worth(1, 1), front()), [2, 0, 0, 1000, 1])

    def test_the_film_and_the_camera(self):
        rows = asked(begins(3, 0), act(0, 0, 1, 0, 60), act(0, 0, 2, 0, 5), act(0, 0, 4, 0, 30),
                     worth(3, 100), worth(4, 40), front())
        self.assertEqual(rows[-1], [4, 0, 0, 30, 40, 65, 100, 95, 140])

    def test_asking_changes_nothing(self):
        rows = asked(act(0, 0, 1, 0, 3), worth(1, 5), front(), front(), act(0, 0, 1, 0, 2), worth(0, 1), front())
        self.assertEqual(rows[2:], [[2, 0, 0, 3, 5], [2, 0, 0, 3, 5], [1], [1], [2, 0, 1, 2, 6]])


class ManyPairs(unittest.TestCase):

    def test_every_state_of_six_facts(self):
        acts = [act(0, 0, 1 << k, 0, 1 << k) for k in range(6)]
        worths = [worth(1 << k, 1 << k) for k in range(6)]
        row = last(begins(6, 0), *acts, *worths, front())
        self.assertEqual(row, [64] + [number for k in range(64) for number in (k, k)])

    def test_every_state_told_in_another_order(self):
        acts = [act(0, 0, 1 << k, 0, 32 >> k) for k in range(6)]
        worths = [worth(1 << k, (32 >> k) * 10) for k in range(6)]
        row = last(begins(6, 0), *acts, *worths, front())
        self.assertEqual(row, [64] + [number for k in range(64) for number in (k, k * 10)])

    def test_one_state_behind_another(self):
        worths = [worth(1 << k, 1 << k) for k in range(6)]
        row = last(begins(6, 0), *counting_acts(1000), *worths, front())
        self.assertEqual(row, [64] + [number for k in range(64) for number in (k * 1000, k)])

    def test_only_what_rises_of_one_state_behind_another(self):
        # The number of facts that are so goes up and down while the acts count; it is a new most at 1, 3, 7 ..
        row = last(begins(6, 0), *counting_acts(1), *[worth(1 << k, 1) for k in range(6)], front())
        self.assertEqual(row, [7, 0, 0, 1, 1, 3, 2, 7, 3, 15, 4, 31, 5, 63, 6])

    def test_the_pairs_rise_and_are_what_best_and_least_tell(self):
        acts = [act(0, 0, 1 << k, 0, 3 + 5 * k % 7) for k in range(6)]
        worths = [worth((9 * k + 5) % 64, 10 + 7 * k % 11) for k in range(8)]
        house = [begins(6, 0)] + acts + worths
        row = last(*house, front())
        pairs = [(row[place], row[place + 1]) for place in range(1, len(row), 2)]
        self.assertEqual(len(pairs), row[0])
        self.assertGreater(len(pairs), 4)
        for before, behind in zip(pairs, pairs[1:]):
            self.assertLess(before[0], behind[0])
            self.assertLess(before[1], behind[1])
            self.assertEqual(last(*house, best(behind[0] - 1))[:2], [before[1], before[0]])
            self.assertEqual(last(*house, least(before[1] + 1))[:2], [behind[0], behind[1]])
