"""Point 1, act: which rows are refused, and what an act needs and does."""

import unittest

from helper import LARGEST, act, asked, begins, best, last, start, worth

GOOD = act(0, 0, 1, 0, 1)


class HowManyNumbers(unittest.TestCase):

    def test_only_five_are_taken(self):
        for count in range(7):
            with self.subTest(count=count):
                rows = asked(act(*[1] * count), GOOD)
                self.assertEqual(rows, [[0], [1]] if count == 5 else [[-1], [0]])

    def test_the_sixth_is_not_read_as_a_call(self):
        self.assertEqual(asked(act(0, 0, 1, 0, 1, 4), best(0)), [[-1], [0, 0]])


class Cost(unittest.TestCase):

    def test_edges(self):
        for cost, answer in ((0, [-1]), (1, [0]), (2, [0]), (999, [0]), (1000, [0]), (1001, [-1]), (LARGEST, [-1])):
            with self.subTest(cost=cost):
                self.assertEqual(last(act(0, 0, 1, 0, cost)), answer)

    def test_it_costs_that(self):
        for cost in (1, 2, 999, 1000):
            rows = asked(act(0, 0, 1, 0, cost), worth(1, 1), best(LARGEST))
            self.assertEqual(rows[-1], [1, cost, 0])


class FactsThatAreNotThere(unittest.TestCase):

    def test_in_each_of_the_four_sets(self):
        for facts in range(1, 7):
            for place in range(4):
                for wrong in (1 << facts, (1 << facts) + 1, 1 << 31, LARGEST):
                    with self.subTest(facts=facts, place=place, wrong=wrong):
                        parts = [0, 0, 0, 0, 1]
                        parts[place] = wrong
                        rows = asked(begins(facts, 0), act(*parts), GOOD)
                        self.assertEqual(rows[1:], [[-1], [0]])

    def test_the_highest_sets_are_there(self):
        for facts in range(1, 7):
            for place in range(4):
                with self.subTest(facts=facts, place=place):
                    parts = [0, 0, 0, 0, 1]
                    parts[place] = (1 << facts) - 1
                    self.assertEqual(last(begins(facts, 0), act(*parts)), [0])

    def test_a_new_house_has_one_fact(self):
        self.assertEqual(asked(act(1, 1, 1, 1, 1), act(0, 0, 2, 0, 1)), [[0], [-1]])


class HowManyActs(unittest.TestCase):

    def test_the_tenth_and_the_eleventh(self):
        rows = asked(*[GOOD] * 12)
        self.assertEqual(rows, [[number] for number in range(10)] + [[-7], [-7]])

    def test_refused_ones_do_not_count(self):
        rows = asked(*[GOOD] * 9, act(0, 0, 2, 0, 1), act(), GOOD, GOOD)
        self.assertEqual(rows[9:], [[-1], [-1], [9], [-7]])

    def test_ten_there_and_the_row_wrong_too(self):
        for wrong in (act(), act(1), act(0, 0, 1, 0, 0), act(2, 0, 0, 0, 1), act(0, 0, 0, 0, 1, 1)):
            with self.subTest(wrong=wrong):
                self.assertEqual(last(*[GOOD] * 10, wrong), [-7])

    def test_the_tenth_is_done_and_the_eleventh_not(self):
        idle = act(0, 0, 0, 0, 1)
        tenth = act(0, 0, 1, 0, 7)
        eleventh = act(0, 0, 1, 0, 1)
        rows = asked(*[idle] * 9, tenth, eleventh, worth(1, 5), best(100))
        self.assertEqual(rows[-1], [5, 7, 9])


class RefusedActs(unittest.TestCase):

    def test_they_leave_all_as_it_was(self):
        for refused in (act(), act(0, 0, 2, 0, 1), act(0, 0, 1, 0, 0), act(0, 0, 1, 0, 1001), act(0, 0, 1, 0, 1, 1)):
            with self.subTest(refused=refused):
                rows = asked(worth(1, 5), worth(0, 2), refused, best(LARGEST), start(1), best(LARGEST), worth(1, 1))
                self.assertEqual(rows[2:], [[-1], [2, 0], [0], [7, 0], [2]])


class WhenAnActMayBeDone(unittest.TestCase):

    def states_where_done(self, needs, bars):
        # Fact 2 tells that the act was done.
        done = []
        for so in range(4):
            rows = asked(begins(3, so), act(needs, bars, 4, 0, 1), worth(4, 1), best(1))
            self.assertIn(rows[-1], ([0, 0], [1, 1, 0]))
            if rows[-1] == [1, 1, 0]:
                done.append(so)
        return done

    def test_nothing_needed(self):
        self.assertEqual(self.states_where_done(0, 0), [0, 1, 2, 3])

    def test_a_fact_is_needed(self):
        self.assertEqual(self.states_where_done(1, 0), [1, 3])

    def test_all_needed_facts_have_to_be_so(self):
        self.assertEqual(self.states_where_done(3, 0), [3])

    def test_a_fact_must_not_be(self):
        self.assertEqual(self.states_where_done(0, 2), [0, 1])

    def test_none_of_several_may_be(self):
        self.assertEqual(self.states_where_done(0, 3), [0])

    def test_one_needed_and_one_must_not_be(self):
        self.assertEqual(self.states_where_done(1, 2), [1])

    def test_the_same_fact_needed_and_must_not_be(self):
        self.assertEqual(self.states_where_done(1, 1), [])

    def test_one_act_opens_the_way_for_another(self):
        rows = asked(begins(2, 0), act(1, 0, 2, 0, 2), act(0, 0, 1, 0, 3), worth(2, 5), best(5), best(4))
        self.assertEqual(rows[-2:], [[5, 5, 1, 0], [0, 0]])

    def test_one_act_closes_the_way_for_another(self):
        rows = asked(begins(2, 0), act(0, 0, 1, 0, 1), act(0, 1, 2, 0, 1), worth(3, 5), best(9))
        self.assertEqual(rows[-1], [5, 2, 1, 0])


class WhatIsSoBehindAnAct(unittest.TestCase):

    def test_taken_away_and_brought(self):
        rows = asked(begins(3, 6), act(0, 0, 1, 2, 1), worth(1, 1), worth(2, 10), worth(4, 100), best(0), best(1))
        # Fact 1 is lost and worth more than what fact 0 brings, so the act isn't done.
        self.assertEqual(rows[-2:], [[110, 0], [110, 0]])
        rows = asked(begins(3, 6), act(0, 0, 1, 2, 1), worth(1, 10), worth(2, 1), worth(4, 100), best(1))
        self.assertEqual(rows[-1], [110, 1, 0])

    def test_both_brought_and_taken_away_is_so(self):
        for so in (0, 1):
            with self.subTest(so=so):
                # Fact 1 has to be so for the worth, so the act is done; fact 0 has to be so behind it.
                rows = asked(begins(2, so), act(0, 0, 3, 1, 4), worth(3, 8), best(4))
                self.assertEqual(rows[-1], [8, 4, 0])

    def test_bringing_what_is_so_leaves_it_so(self):
        rows = asked(begins(2, 1), act(0, 0, 3, 0, 1), worth(3, 8), best(1))
        self.assertEqual(rows[-1], [8, 1, 0])

    def test_taking_away_what_is_not_so_leaves_it_so_not(self):
        rows = asked(begins(2, 0), act(0, 0, 2, 1, 1), worth(1, 100), worth(2, 8), best(1))
        self.assertEqual(rows[-1], [8, 1, 0])

    def test_a_taken_fact_lets_another_act_be_done(self):
        rows = asked(begins(2, 1), act(0, 1, 2, 0, 5), act(0, 0, 0, 1, 3), worth(2, 9), best(8), best(7))
        self.assertEqual(rows[-2:], [[9, 8, 1, 0], [0, 0]])
