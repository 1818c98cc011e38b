"""Point 2, least: the cheapest end that's worth so much, of as cheap ones the neatest; -6 where there is none."""

import unittest

from helper import LARGEST, act, asked, begins, best, counting_acts, drop, front, last, least, net, start, worth


class HowMuch(unittest.TestCase):

    def test_nothing_is_asked(self):
        self.assertEqual(last(least(0)), [0, 0])
        self.assertEqual(last(act(0, 0, 1, 0, 1), least(0)), [0, 0])
        self.assertEqual(last(act(0, 0, 1, 0, 1), worth(1, 9), least(0)), [0, 0])

    def test_what_the_end_with_no_act_is_worth_is_told(self):
        rows = asked(begins(2, 1), act(0, 0, 2, 0, 1), worth(1, 4), worth(2, 9), least(0), least(4), least(5))
        self.assertEqual(rows[-3:], [[0, 4], [0, 4], [1, 13, 0]])

    def test_nothing_worth_anything(self):
        rows = asked(least(1), act(0, 0, 1, 0, 1), least(1), least(0), least(LARGEST))
        self.assertEqual(rows, [[-6], [0], [-6], [0, 0], [-6]])

    def test_just_as_much_as_can_be_had_and_one_more(self):
        house = [begins(2, 0), act(0, 0, 1, 0, 7), act(1, 0, 2, 0, 5), worth(1, 3), worth(2, 4)]
        rows = asked(*house, least(3), least(4), least(7), least(8), least(LARGEST))
        self.assertEqual(rows[len(house):], [[7, 3, 0], [12, 7, 0, 1], [12, 7, 0, 1], [-6], [-6]])

    def test_the_most_there_can_be(self):
        rows = asked(act(0, 0, 1, 0, 1000), *[worth(1, 1000)] * 8, least(8000), least(8001), least(LARGEST))
        self.assertEqual(rows[-3:], [[1000, 8000, 0], [-6], [-6]])

    def test_what_no_act_reaches_is_never_had(self):
        rows = asked(begins(2, 0), act(2, 0, 1, 0, 1), worth(1, 5), least(5), start(2), least(5))
        self.assertEqual(rows[-3:], [[-6], [0], [1, 5, 0]])

    def test_never_both_at_once(self):
        rows = asked(begins(2, 1), act(1, 0, 2, 1, 3), worth(1, 5), worth(2, 6), least(5), least(6), least(7))
        self.assertEqual(rows[-3:], [[0, 5], [3, 6, 0], [-6]])

    def test_the_cost_stands_first(self):
        self.assertEqual(last(act(0, 0, 1, 0, 60), worth(1, 8), least(8)), [60, 8, 0])
        self.assertEqual(last(act(0, 0, 1, 0, 8), worth(1, 60), least(8)), [8, 60, 0])

    def test_a_very_dear_end(self):
        row = [(~state & (state + 1)).bit_length() - 1 for state in range(63)]
        rows = asked(begins(6, 0), *counting_acts(1000), worth(63, 2), worth(0, 1), least(3), least(2), least(4))
        self.assertEqual(rows[-3:], [[63000, 3] + row, [63000, 3] + row, [-6]])


class TheCheapest(unittest.TestCase):

    def test_of_two_acts(self):
        rows = asked(act(0, 0, 1, 0, 5), act(0, 0, 1, 0, 4), act(0, 0, 1, 0, 6), worth(1, 5), least(5))
        self.assertEqual(rows[-1], [4, 5, 1])

    def test_an_end_worth_more_than_was_asked(self):
        rows = asked(begins(2, 0), act(0, 0, 1, 0, 5), act(0, 0, 2, 0, 4), worth(1, 5), worth(2, 900), least(5))
        self.assertEqual(rows[-1], [4, 900, 1])

    def test_an_end_worth_more_is_not_taken_if_it_costs_more(self):
        rows = asked(begins(2, 0), act(0, 0, 1, 0, 5), act(0, 0, 2, 0, 4), worth(1, 900), worth(2, 5), least(5))
        self.assertEqual(rows[-1], [4, 5, 1])

    def test_cheaper_with_more_acts(self):
        rows = asked(begins(2, 0), act(0, 0, 3, 0, 9), act(0, 0, 1, 0, 4), act(0, 0, 2, 0, 4), worth(3, 5), least(1))
        self.assertEqual(rows[-1], [8, 5, 1, 2])

    def test_through_states_worth_less(self):
        rows = asked(begins(2, 1), act(1, 0, 0, 1, 1), act(0, 1, 2, 0, 1), worth(1, 5), worth(2, 6), least(6))
        self.assertEqual(rows[-1], [2, 6, 0, 1])


class TheNeatest(unittest.TestCase):

    def test_fewer_acts_in_one_state(self):
        rows = asked(begins(2, 0), act(0, 0, 1, 0, 1), act(0, 0, 2, 0, 1), act(0, 0, 3, 0, 2), worth(3, 5), least(5))
        self.assertEqual(rows[-1], [2, 5, 2])

    def test_fewer_acts_in_different_states(self):
        rows = asked(begins(3, 0), act(0, 0, 1, 0, 1), act(1, 0, 2, 0, 1), act(0, 0, 4, 0, 2),
                     worth(2, 5), worth(4, 5), least(5))
        self.assertEqual(rows[-1], [2, 5, 2])

    def test_fewer_acts_though_the_other_end_is_worth_more(self):
        rows = asked(begins(3, 0), act(0, 0, 1, 0, 1), act(1, 0, 2, 0, 1), act(0, 0, 4, 0, 2),
                     worth(2, 9), worth(4, 5), least(5), least(6))
        self.assertEqual(rows[-2:], [[2, 5, 2], [2, 9, 0, 1]])

    def test_the_lower_act_in_one_state(self):
        self.assertEqual(last(act(0, 0, 1, 0, 5), act(0, 0, 1, 0, 5), worth(1, 5), least(5)), [5, 5, 0])

    def test_the_lower_act_in_different_states_whatever_they_are_worth(self):
        for facts in ((1, 2), (2, 1)):
            for prices in ((5, 5), (5, 8), (8, 5)):
                with self.subTest(facts=facts, prices=prices):
                    rows = asked(begins(2, 0), act(0, 0, facts[0], 0, 5), act(0, 0, facts[1], 0, 5),
                                 worth(facts[0], prices[0]), worth(facts[1], prices[1]), least(5))
                    self.assertEqual(rows[-1], [5, prices[0], 0])

    def test_the_first_place_counts_and_not_the_last(self):
        house = [begins(4, 0), act(0, 2, 1, 0, 3), act(0, 1, 2, 0, 1), act(2, 0, 4, 2, 3), act(1, 0, 8, 1, 1)]
        self.assertEqual(last(*house, worth(4, 7), worth(8, 5), least(5)), [4, 5, 0, 3])
        self.assertEqual(last(*house, worth(4, 7), worth(8, 5), least(6)), [4, 7, 1, 2])

    def test_the_order_that_comes_first(self):
        rows = asked(begins(3, 0), act(0, 0, 4, 0, 2), act(0, 0, 2, 0, 3), act(0, 0, 1, 0, 1), worth(7, 5), least(5))
        self.assertEqual(rows[-1], [6, 5, 0, 1, 2])


class Refused(unittest.TestCase):

    def test_all_is_as_it_was(self):
        rows = asked(begins(2, 1), act(1, 0, 2, 0, 3), worth(2, 5), least(6), least(5), best(3), net(), front(),
                     start(3), start(4), act(0, 0, 1, 0, 1), worth(1, 1), drop(2), drop(1))
        self.assertEqual(rows[3:], [[-6], [3, 5, 0], [5, 3, 0], [0, 5, 3, 0], [2, 0, 0, 3, 5],
                                    [0], [-1], [1], [1], [-2], [1]])

    def test_asking_changes_nothing(self):
        rows = asked(act(0, 0, 1, 0, 3), worth(1, 5), least(5), least(6), least(5), least(0), least(5))
        self.assertEqual(rows[2:], [[3, 5, 0], [-6], [3, 5, 0], [0, 0], [3, 5, 0]])
