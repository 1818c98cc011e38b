"""Point 1, worth: what is refused, and what states are worth together."""

import unittest

from helper import LARGEST, act, asked, begins, best, last, start, worth


class HowMuch(unittest.TestCase):

    def test_edges(self):
        for much, answer in ((0, [-1]), (1, [0]), (2, [0]), (999, [0]), (1000, [0]), (1001, [-1]), (LARGEST, [-1])):
            with self.subTest(much=much):
                self.assertEqual(last(worth(1, much)), answer)

    def test_it_is_worth_that(self):
        for much in (1, 2, 999, 1000):
            self.assertEqual(last(start(1), worth(1, much), best(0)), [much, 0])


class WhichFacts(unittest.TestCase):

    def test_facts_that_are_not_there(self):
        for facts in range(1, 7):
            for wrong in (1 << facts, (1 << facts) + 1, 1 << 31, LARGEST):
                with self.subTest(facts=facts, wrong=wrong):
                    self.assertEqual(asked(begins(facts, 0), worth(wrong, 1), worth(0, 1))[1:], [[-1], [0]])

    def test_all_facts_that_are_there(self):
        for facts in range(1, 7):
            self.assertEqual(last(begins(facts, 0), worth((1 << facts) - 1, 1)), [0])

    def test_a_new_house_has_one_fact(self):
        self.assertEqual(asked(worth(1, 1), worth(2, 1), worth(3, 1)), [[0], [-1], [-1]])

    def test_the_empty_set_is_always_had(self):
        rows = asked(begins(2, 0), worth(0, 6), best(0), start(3), best(0))
        self.assertEqual(rows[1:], [[0], [6, 0], [0], [6, 0]])


class HowMany(unittest.TestCase):

    def test_the_eighth_and_the_ninth(self):
        rows = asked(*[worth(1, 1)] * 10)
        self.assertEqual(rows, [[number] for number in range(8)] + [[-7], [-7]])

    def test_refused_ones_do_not_count(self):
        rows = asked(*[worth(1, 1)] * 7, worth(2, 1), worth(1, 0), worth(1, 1), worth(1, 1))
        self.assertEqual(rows[7:], [[-1], [-1], [7], [-7]])

    def test_eight_there_and_the_numbers_wrong_too(self):
        for wrong in (worth(2, 1), worth(1, 0), worth(1, 1001), worth(LARGEST, LARGEST)):
            with self.subTest(wrong=wrong):
                self.assertEqual(last(*[worth(1, 1)] * 8, wrong), [-7])

    def test_the_eighth_counts_and_the_ninth_not(self):
        rows = asked(start(1), *[worth(1, 1)] * 7, worth(1, 100), worth(1, 1000), best(0))
        self.assertEqual(rows[-1], [107, 0])


class Together(unittest.TestCase):

    def test_all_facts_of_a_set_have_to_be_so(self):
        for so, much in ((0, 0), (1, 0), (2, 0), (4, 0), (3, 5), (5, 0), (6, 0), (7, 5)):
            with self.subTest(so=so):
                self.assertEqual(last(begins(3, so), worth(3, 5), best(0)), [much, 0])

    def test_sets_are_added_up(self):
        sets = [worth(1, 1), worth(2, 10), worth(3, 100), worth(0, 1000)]
        for so, much in ((0, 1000), (1, 1001), (2, 1010), (3, 1111)):
            with self.subTest(so=so):
                self.assertEqual(last(begins(2, so), *sets, best(0)), [much, 0])

    def test_the_same_set_several_times(self):
        rows = asked(start(1), worth(1, 5), worth(1, 5), worth(1, 7), best(0))
        self.assertEqual(rows, [[0], [0], [1], [2], [17, 0]])

    def test_the_most_there_can_be(self):
        self.assertEqual(last(start(1), *[worth(1, 1000)] * 8, best(0)), [8000, 0])

    def test_refused_ones_leave_all_as_it_was(self):
        for refused in (worth(2, 5), worth(1, 0), worth(0, 1001)):
            with self.subTest(refused=refused):
                rows = asked(act(0, 0, 1, 0, 2), worth(1, 5), refused, best(9), act(0, 0, 1, 0, 2), worth(1, 5))
                self.assertEqual(rows[2:], [[-1], [5, 2, 0], [1], [1]])
