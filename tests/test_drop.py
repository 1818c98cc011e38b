"""Point 2, drop: which is gone, which move up, and -2 where there's no such."""

import unittest

from helper import LARGEST, act, asked, begins, best, drop, front, least, net, start, worth

# Three that are told apart by what they are worth together.
THREE = [begins(3, 7), worth(1, 1), worth(2, 10), worth(4, 100)]


class WhichIsGone(unittest.TestCase):

    def test_each_of_three(self):
        for which, left in ((0, 110), (1, 101), (2, 11)):
            with self.subTest(which=which):
                self.assertEqual(asked(*THREE, best(0), drop(which), best(0))[4:], [[111, 0], [2], [left, 0]])

    def test_each_of_eight(self):
        for which in range(8):
            with self.subTest(which=which):
                prices = [1 << k for k in range(8)]
                rows = asked(*[worth(0, price) for price in prices], drop(which), best(0))
                self.assertEqual(rows[8:], [[7], [255 - prices[which], 0]])

    def test_those_behind_it_move_up(self):
        self.assertEqual(asked(*THREE, drop(0), drop(0), best(0))[4:], [[2], [1], [100, 0]])
        self.assertEqual(asked(*THREE, drop(1), drop(1), best(0))[4:], [[2], [1], [1, 0]])
        self.assertEqual(asked(*THREE, drop(0), drop(1), best(0))[4:], [[2], [1], [10, 0]])

    def test_those_ahead_of_it_stay(self):
        self.assertEqual(asked(*THREE, drop(2), drop(0), best(0))[4:], [[2], [1], [10, 0]])

    def test_all_one_behind_another(self):
        rows = asked(*THREE, drop(2), drop(1), drop(0), drop(0), best(0))
        self.assertEqual(rows[4:], [[2], [1], [0], [-2], [0, 0]])

    def test_the_only_one(self):
        self.assertEqual(asked(worth(0, 5), drop(0), best(0), worth(0, 3), best(0)), [[0], [0], [0, 0], [0], [3, 0]])

    def test_the_same_set_told_twice_and_dropped_once(self):
        rows = asked(start(1), worth(1, 5), worth(1, 5), best(0), drop(0), best(0), least(5), drop(0), best(0))
        self.assertEqual(rows[3:], [[10, 0], [1], [5, 0], [0, 5], [0], [0, 0]])

    def test_the_same_set_with_different_worth(self):
        for which, left in ((0, 7), (1, 5)):
            with self.subTest(which=which):
                self.assertEqual(asked(start(1), worth(1, 5), worth(1, 7), drop(which), best(0))[-1], [left, 0])


class WhatComesBehind(unittest.TestCase):

    def test_a_new_one_stands_at_the_end(self):
        rows = asked(*THREE, drop(0), worth(1, 500), best(0), drop(2), best(0), drop(0), best(0))
        self.assertEqual(rows[4:], [[2], [2], [610, 0], [2], [110, 0], [1], [100, 0]])

    def test_a_ninth_is_taken_after_a_drop(self):
        rows = asked(*[worth(0, 1)] * 8, worth(0, 90), drop(3), worth(0, 90), worth(0, 900), best(0))
        self.assertEqual(rows[8:], [[-7], [7], [7], [-7], [97, 0]])

    def test_begins_leaves_none_to_drop(self):
        self.assertEqual(asked(*THREE, begins(3, 7), drop(0), worth(1, 4), drop(0))[4:], [[0], [-2], [0], [0]])

    def test_start_leaves_them(self):
        self.assertEqual(asked(*THREE, start(3), drop(1), best(0))[4:], [[0], [2], [1, 0]])

    def test_acts_and_facts_stay(self):
        rows = asked(begins(2, 1), act(1, 0, 2, 0, 3), worth(2, 5), drop(0), worth(2, 6), best(3),
                     act(0, 0, 1, 0, 1), start(3), start(4))
        self.assertEqual(rows[3:], [[0], [0], [6, 3, 0], [1], [0], [-1]])

    def test_what_best_least_net_and_front_answer(self):
        house = [begins(2, 0), act(0, 0, 1, 0, 3), act(0, 0, 2, 0, 4), worth(1, 5), worth(2, 6), worth(3, 7)]
        asking = [best(7), least(6), net(), front()]
        rows = asked(*house, *asking, drop(1), *asking)
        self.assertEqual(rows[6:10], [[18, 7, 0, 1], [4, 6, 1], [0, 18, 7, 0, 1], [4, 0, 0, 3, 5, 4, 6, 7, 18]])
        self.assertEqual(rows[10:], [[2], [12, 7, 0, 1], [7, 12, 0, 1], [0, 12, 7, 0, 1], [3, 0, 0, 3, 5, 7, 12]])
        rows = asked(*house, drop(2), drop(0), *asking)
        self.assertEqual(rows[6:], [[2], [1], [6, 4, 1], [4, 6, 1], [0, 6, 4, 1], [2, 0, 0, 4, 6]])
        rows = asked(*house, drop(0), drop(0), drop(0), *asking)
        self.assertEqual(rows[6:], [[2], [1], [0], [0, 0], [-6], [0, 0, 0], [1, 0, 0]])


class NoSuch(unittest.TestCase):

    def test_nothing_worth_anything(self):
        for which in (0, 1, 7, 8, LARGEST):
            with self.subTest(which=which):
                self.assertEqual(asked(drop(which), worth(0, 1), best(0)), [[-2], [0], [1, 0]])

    def test_the_first_that_is_not_there_and_later_ones(self):
        for which in (3, 4, 7, 8, 1 << 31, LARGEST):
            with self.subTest(which=which):
                rows = asked(*THREE, drop(which), best(0), worth(0, 1), drop(3), drop(0), best(0))
                self.assertEqual(rows[4:], [[-2], [111, 0], [3], [3], [2], [110, 0]])

    def test_the_ninth(self):
        rows = asked(*[worth(0, 1)] * 8, drop(8), drop(LARGEST), worth(0, 1), best(0), drop(7), drop(7))
        self.assertEqual(rows[8:], [[-2], [-2], [-7], [8, 0], [7], [-2]])

    def test_all_is_as_it_was(self):
        rows = asked(begins(2, 1), act(1, 0, 2, 0, 3), worth(2, 5), drop(1), best(3), least(5), net(), front(),
                     start(3), start(4), act(0, 0, 1, 0, 1), worth(1, 1))
        self.assertEqual(rows[3:], [[-2], [5, 3, 0], [3, 5, 0], [0, 5, 3, 0], [2, 0, 0, 3, 5], [0], [-1], [1], [1]])
