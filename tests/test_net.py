"""net: the end of which most is left, of several the cheapest, of these the neatest."""

import unittest

from helper import act, asked, begins, best, counting_acts, last, net, start, worth


class WhatIsLeft(unittest.TestCase):

    def test_a_new_house(self):
        self.assertEqual(last(net()), [0, 0, 0])

    def test_nothing_worth_anything(self):
        self.assertEqual(last(act(0, 0, 1, 0, 1), net()), [0, 0, 0])

    def test_every_end_that_does_something_leaves_less_than_nothing(self):
        rows = asked(begins(2, 0), act(0, 0, 1, 0, 6), act(0, 0, 2, 0, 9), worth(1, 5), worth(2, 8), net())
        self.assertEqual(rows[-1], [0, 0, 0])

    def test_no_act_where_the_first_state_is_worth_something(self):
        rows = asked(begins(2, 1), act(0, 0, 2, 0, 5), worth(1, 7), worth(2, 4), net())
        self.assertEqual(rows[-1], [0, 7, 0])

    def test_zero_then_the_worth_then_the_cost_then_the_acts(self):
        self.assertEqual(last(act(0, 0, 1, 0, 60), worth(1, 100), net()), [0, 100, 60, 0])
        self.assertEqual(last(act(0, 0, 1, 0, 1), worth(1, 2), net()), [0, 2, 1, 0])

    def test_an_end_that_costs_more_than_it_is_worth_is_not_taken(self):
        rows = asked(begins(2, 0), act(0, 0, 1, 0, 3), act(0, 0, 2, 0, 1000), worth(1, 5), worth(2, 999),
                     net(), best(1003))
        self.assertEqual(rows[-2:], [[0, 5, 3, 0], [1004, 1003, 0, 1]])

    def test_one_more_makes_the_difference(self):
        for much, answer in ((7, [0, 0, 0]), (8, [0, 0, 0]), (9, [0, 9, 8, 0])):
            with self.subTest(much=much):
                self.assertEqual(last(act(0, 0, 1, 0, 8), worth(1, much), net()), answer)

    def test_worth_less_but_more_is_left(self):
        rows = asked(begins(2, 0), act(0, 0, 1, 2, 50), act(0, 0, 2, 1, 10), worth(1, 90), worth(2, 60), net())
        self.assertEqual(rows[-1], [0, 60, 10, 1])

    def test_dearer_but_more_is_left(self):
        rows = asked(begins(2, 0), act(0, 0, 1, 2, 50), act(0, 0, 2, 1, 10), worth(1, 101), worth(2, 60), net())
        self.assertEqual(rows[-1], [0, 101, 50, 0])

    def test_worth_something_only_together(self):
        rows = asked(begins(3, 0), act(0, 0, 1, 0, 60), act(0, 0, 2, 0, 5), act(0, 0, 4, 0, 30),
                     worth(3, 100), worth(4, 29), net(), worth(4, 2), net())
        self.assertEqual(rows[6], [0, 100, 65, 0, 1])
        self.assertEqual(rows[8], [0, 131, 95, 0, 1, 2])

    def test_one_act_serves_several(self):
        rows = asked(begins(3, 0), act(0, 0, 1, 0, 10), act(1, 0, 2, 0, 1), act(1, 0, 4, 0, 1),
                     worth(2, 7), worth(4, 7), net())
        self.assertEqual(rows[-1], [0, 14, 12, 0, 1, 2])

    def test_less_may_be_lost_by_going_on(self):
        rows = asked(begins(2, 1), act(0, 0, 2, 1, 1), worth(1, 5), worth(2, 6), net(), worth(2, 1), net())
        self.assertEqual([rows[4], rows[6]], [[0, 5, 0], [0, 7, 1, 0]])

    def test_a_long_way(self):
        row = [(~state & (state + 1)).bit_length() - 1 for state in range(63)]
        rows = asked(begins(6, 0), *counting_acts(15), worth(63, 945), net(), worth(63, 1), net())
        self.assertEqual([rows[8], rows[10]], [[0, 0, 0], [0, 946, 945] + row])

    def test_the_most_there_can_be(self):
        self.assertEqual(last(act(0, 0, 1, 0, 1000), *[worth(1, 1000)] * 8, net()), [0, 8000, 1000, 0])

    def test_asking_changes_nothing(self):
        rows = asked(act(0, 0, 1, 0, 3), worth(1, 5), net(), net(), start(1), net(), worth(1, 1), net())
        self.assertEqual(rows[2:], [[0, 5, 3, 0], [0, 5, 3, 0], [0], [0, 5, 0], [1], [0, 6, 0]])


class TheCheapest(unittest.TestCase):

    def test_no_act_where_as_much_is_left(self):
        self.assertEqual(last(begins(2, 1), act(0, 0, 2, 0, 4), worth(1, 3), worth(2, 4), net()), [0, 3, 0])

    def test_of_several_with_as_much_left(self):
        for costs in ((5, 7, 6), (7, 5, 6), (7, 6, 5)):
            with self.subTest(costs=costs):
                acts = [act(0, 7, 1 << k, 0, costs[k]) for k in range(3)]
                worths = [worth(1 << k, costs[k] + 2) for k in range(3)]
                self.assertEqual(last(begins(3, 0), *acts, *worths, net()), [0, 7, 5, costs.index(5)])

    def test_cheaper_with_more_acts(self):
        rows = asked(begins(3, 0), act(0, 7, 4, 0, 9), act(0, 4, 1, 0, 4), act(0, 4, 2, 0, 4),
                     worth(4, 14), worth(3, 13), net())
        self.assertEqual(rows[-1], [0, 13, 8, 1, 2])


class TheNeatest(unittest.TestCase):

    def test_fewer_acts_in_one_state(self):
        rows = asked(begins(2, 0), act(0, 0, 1, 0, 1), act(0, 0, 2, 0, 1), act(0, 0, 3, 0, 2), worth(3, 5), net())
        self.assertEqual(rows[-1], [0, 5, 2, 2])

    def test_fewer_acts_in_different_states(self):
        rows = asked(begins(3, 0), act(0, 4, 1, 0, 1), act(1, 4, 2, 0, 1), act(0, 7, 4, 0, 2),
                     worth(2, 5), worth(4, 5), net())
        self.assertEqual(rows[-1], [0, 5, 2, 2])

    def test_the_lower_act_in_one_state(self):
        self.assertEqual(last(act(0, 0, 1, 0, 4), act(0, 0, 1, 0, 4), worth(1, 5), net()), [0, 5, 4, 0])

    def test_the_lower_act_in_different_states(self):
        for facts in ((1, 2), (2, 1)):
            with self.subTest(facts=facts):
                rows = asked(begins(2, 0), act(0, 3, facts[0], 0, 4), act(0, 3, facts[1], 0, 4),
                             worth(1, 5), worth(2, 5), net())
                self.assertEqual(rows[-1], [0, 5, 4, 0])

    def test_the_first_place_counts_and_not_the_last(self):
        house = [begins(4, 0), act(0, 2, 1, 0, 3), act(0, 1, 2, 0, 1), act(2, 12, 4, 2, 3), act(1, 12, 8, 1, 1),
                 worth(4, 5), worth(8, 5)]
        self.assertEqual(last(*house, net()), [0, 5, 4, 0, 3])
