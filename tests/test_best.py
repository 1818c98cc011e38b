"""best: worth most, of as much worth the cheapest, of these the neatest."""

import unittest

from helper import LARGEST, act, asked, begins, best, counting_acts, last, worth


class WhatMayBeSpent(unittest.TestCase):

    def test_nothing_worth_anything(self):
        rows = asked(best(0), best(LARGEST), act(0, 0, 1, 0, 1), best(0), best(LARGEST))
        self.assertEqual(rows, [[0, 0], [0, 0], [0], [0, 0], [0, 0]])

    def test_no_acts(self):
        self.assertEqual(last(worth(1, 5), best(LARGEST)), [0, 0])

    def test_nothing_to_spend(self):
        rows = asked(begins(2, 1), act(0, 0, 2, 0, 1), worth(1, 4), worth(2, 9), best(0))
        self.assertEqual(rows[-1], [4, 0])

    def test_just_enough_and_one_less(self):
        rows = asked(begins(2, 0), act(0, 0, 1, 0, 7), act(1, 0, 2, 0, 5), worth(1, 3), worth(2, 4),
                     best(12), best(11), best(7), best(6), best(13))
        self.assertEqual(rows[-5:], [[7, 12, 0, 1], [3, 7, 0], [3, 7, 0], [0, 0], [7, 12, 0, 1]])

    def test_a_very_large_sum(self):
        rows = asked(begins(2, 0), act(0, 0, 1, 0, 1000), act(0, 0, 2, 0, 1000), worth(3, 1), best(LARGEST))
        self.assertEqual(rows[-1], [1, 2000, 0, 1])

    def test_worth_less_than_its_cost_is_bought_all_the_same(self):
        self.assertEqual(last(act(0, 0, 1, 0, 1000), worth(1, 1), best(1000)), [1, 1000, 0])

    def test_the_film_and_the_camera(self):
        house = [begins(3, 0), act(0, 0, 1, 0, 60), act(0, 0, 2, 0, 5), act(0, 0, 4, 0, 30),
                 worth(3, 100), worth(4, 40)]
        rows = asked(*house, best(29), best(30), best(64), best(65), best(94), best(95))
        self.assertEqual(rows[6:], [[0, 0], [40, 30, 2], [40, 30, 2], [100, 65, 0, 1], [100, 65, 0, 1],
                                    [140, 95, 0, 1, 2]])

    def test_it_need_not_go_on_where_worth_is_lost(self):
        rows = asked(begins(2, 1), act(0, 0, 2, 1, 1), worth(1, 5), worth(2, 4), best(9))
        self.assertEqual(rows[-1], [5, 0])

    def test_it_goes_through_states_worth_less(self):
        rows = asked(begins(2, 1), act(1, 0, 0, 1, 1), act(0, 1, 2, 0, 1), worth(1, 5), worth(2, 6), best(9))
        self.assertEqual(rows[-1], [6, 2, 0, 1])

    def test_asking_changes_nothing(self):
        rows = asked(begins(2, 0), act(0, 0, 1, 0, 3), worth(1, 5), best(9), best(9), best(0), best(9),
                     act(0, 0, 1, 0, 2), worth(1, 1), best(9))
        self.assertEqual(rows[3:], [[5, 3, 0], [5, 3, 0], [0, 0], [5, 3, 0], [1], [1], [6, 2, 1]])


class TheCheapest(unittest.TestCase):

    def test_of_as_much_worth_the_cheapest(self):
        rows = asked(act(0, 0, 1, 0, 5), act(0, 0, 1, 0, 4), act(0, 0, 1, 0, 6), worth(1, 5), best(9))
        self.assertEqual(rows[-1], [5, 4, 1])

    def test_also_in_different_states(self):
        rows = asked(begins(2, 0), act(0, 0, 1, 0, 5), act(0, 0, 2, 0, 4), worth(1, 5), worth(2, 5), best(8))
        self.assertEqual(rows[-1], [5, 4, 1])

    def test_cheaper_with_more_acts(self):
        rows = asked(begins(2, 0), act(0, 0, 3, 0, 9), act(0, 0, 1, 0, 4), act(0, 0, 2, 0, 4), worth(3, 5), best(9))
        self.assertEqual(rows[-1], [5, 8, 1, 2])

    def test_more_worth_comes_before_cheaper(self):
        rows = asked(begins(2, 0), act(0, 0, 1, 0, 1), act(0, 0, 2, 1, 500), worth(1, 5), worth(2, 6), best(500))
        self.assertEqual(rows[-1], [6, 500, 1])


class TheNeatest(unittest.TestCase):

    def test_fewer_acts_in_one_state(self):
        rows = asked(begins(2, 0), act(0, 0, 1, 0, 1), act(0, 0, 2, 0, 1), act(0, 0, 3, 0, 2), worth(3, 5), best(9))
        self.assertEqual(rows[-1], [5, 2, 2])

    def test_fewer_acts_in_different_states(self):
        rows = asked(begins(3, 0), act(0, 0, 1, 0, 1), act(1, 0, 2, 0, 1), act(0, 0, 4, 0, 2),
                     worth(2, 5), worth(4, 5), best(2))
        self.assertEqual(rows[-1], [5, 2, 2])

    def test_fewer_acts_come_before_lower_acts(self):
        rows = asked(begins(4, 0), act(0, 0, 1, 0, 2), act(1, 0, 2, 0, 2), act(2, 0, 4, 0, 2),
                     act(0, 0, 8, 0, 3), act(8, 0, 4, 0, 3), worth(4, 5), best(9))
        self.assertEqual(rows[-1], [5, 6, 3, 4])

    def test_the_lower_act_in_one_state(self):
        rows = asked(act(0, 0, 1, 0, 5), act(0, 0, 1, 0, 5), worth(1, 5), best(9))
        self.assertEqual(rows[-1], [5, 5, 0])

    def test_the_lower_act_in_different_states(self):
        for facts in ((1, 2), (2, 1)):
            with self.subTest(facts=facts):
                rows = asked(begins(2, 0), act(0, 0, facts[0], 0, 5), act(0, 0, facts[1], 0, 5),
                             worth(1, 5), worth(2, 5), best(9))
                self.assertEqual(rows[-1], [5, 5, 0])

    def test_the_order_that_comes_first(self):
        rows = asked(begins(3, 0), act(0, 0, 4, 0, 2), act(0, 0, 2, 0, 3), act(0, 0, 1, 0, 1), worth(7, 5), best(6))
        self.assertEqual(rows[-1], [5, 6, 0, 1, 2])

    def test_the_first_place_counts_and_not_the_last(self):
        # Both ways cost 4 and lead to one state: 0 then 3, or 1 then 2.
        house = [begins(3, 0), act(0, 2, 1, 0, 3), act(0, 1, 2, 0, 1), act(2, 0, 4, 2, 3), act(1, 0, 4, 1, 1)]
        self.assertEqual(last(*house, worth(4, 5), best(4)), [5, 4, 0, 3])

    def test_the_first_place_counts_in_different_states_too(self):
        house = [begins(4, 0), act(0, 2, 1, 0, 3), act(0, 1, 2, 0, 1), act(2, 0, 4, 2, 3), act(1, 0, 8, 1, 1)]
        self.assertEqual(last(*house, worth(4, 5), worth(8, 5), best(4)), [5, 4, 0, 3])

    def test_a_higher_sum_at_the_first_place_may_come_first(self):
        # The way that begins with act 0 is found later, as its first act costs more.
        house = [begins(3, 0), act(0, 0, 1, 0, 9), act(0, 0, 2, 0, 1), act(1, 0, 4, 3, 1), act(2, 0, 4, 3, 9)]
        self.assertEqual(last(*house, worth(4, 5), best(10)), [5, 10, 0, 2])

    def test_numbers_of_acts_and_not_of_states(self):
        rows = asked(begins(6, 0), act(0, 0, 32, 0, 5), act(0, 0, 1, 0, 5), worth(1, 3), worth(32, 3), best(5))
        self.assertEqual(rows[-1], [3, 5, 0])

    def test_acts_that_change_nothing_are_left_out(self):
        rows = asked(act(0, 0, 0, 0, 1), act(0, 0, 1, 0, 1), worth(1, 3), best(LARGEST))
        self.assertEqual(rows[-1], [3, 1, 1])


class ManyActs(unittest.TestCase):

    def test_counting_through_all_states(self):
        row = []
        for state in range(63):
            row.append((~state & (state + 1)).bit_length() - 1)
        rows = asked(begins(6, 0), *counting_acts(1000), worth(63, 1000), best(63000), best(62999), best(LARGEST))
        self.assertEqual(rows[-3:], [[1000, 63000] + row, [0, 0], [1000, 63000] + row])

    def test_counting_part_of_the_way(self):
        rows = asked(begins(6, 0), *counting_acts(1), worth(48, 7), worth(32, 2), worth(63, 1), best(47), best(48))
        self.assertEqual(rows[-2][:2], [2, 32])
        self.assertEqual(len(rows[-2]), 34)
        self.assertEqual(rows[-1][:2], [9, 48])
        self.assertEqual(len(rows[-1]), 50)

    def test_all_six_facts_in_the_first_order(self):
        house = [begins(6, 0)] + [act(0, 0, 1 << (5 - k), 0, 10 + k) for k in range(6)]
        rows = asked(*house, worth(63, 9), best(75), best(74))
        self.assertEqual(rows[-2:], [[9, 75, 0, 1, 2, 3, 4, 5], [0, 0]])

    def test_ten_ways_to_toggle_take_no_long_time(self):
        acts = [act(0, 1 << k, 1 << k, 0, 1) for k in range(5)] + [act(1 << k, 0, 0, 1 << k, 1) for k in range(5)]
        rows = asked(begins(6, 0), *acts, worth(31, 1000), *[best(LARGEST)] * 10)
        self.assertEqual(rows[-10:], [[1000, 5, 0, 1, 2, 3, 4]] * 10)
