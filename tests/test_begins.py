"""Point 1, begins: how many facts there may be, and what begins sets anew."""

import unittest

from helper import LARGEST, act, asked, begins, best, last, start, worth


class HowManyFacts(unittest.TestCase):

    def test_one_to_six_facts(self):
        for facts in range(1, 7):
            with self.subTest(facts=facts):
                self.assertEqual(last(begins(facts, 0)), [0])

    def test_no_facts(self):
        self.assertEqual(last(begins(0, 0)), [-1])

    def test_seven_facts(self):
        self.assertEqual(last(begins(7, 0)), [-1])

    def test_very_many_facts(self):
        for facts in (8, 31, 32, 64, 1000, LARGEST - 1, LARGEST):
            with self.subTest(facts=facts):
                self.assertEqual(last(begins(facts, 0)), [-1])

    def test_there_are_just_so_many(self):
        for facts in range(1, 7):
            with self.subTest(facts=facts):
                highest = 1 << (facts - 1)
                rows = asked(begins(facts, 0), start(highest), start(highest * 2))
                self.assertEqual(rows, [[0], [0], [-1]])


class WhatIsSoAtFirst(unittest.TestCase):

    def test_just_the_highest_fact(self):
        for facts in range(1, 7):
            with self.subTest(facts=facts):
                highest = 1 << (facts - 1)
                rows = asked(begins(facts, highest), worth(highest, 9), best(0))
                self.assertEqual(rows, [[0], [0], [9, 0]])

    def test_all_facts(self):
        for facts in range(1, 7):
            with self.subTest(facts=facts):
                every = (1 << facts) - 1
                self.assertEqual(asked(begins(facts, every), worth(every, 9), best(0))[-1], [9, 0])

    def test_the_first_fact_that_is_not_there(self):
        for facts in range(1, 7):
            with self.subTest(facts=facts):
                self.assertEqual(last(begins(facts, 1 << facts)), [-1])
                self.assertEqual(last(begins(facts, (1 << facts) + 1)), [-1])

    def test_very_large_sets(self):
        for so in (1 << 31, LARGEST):
            self.assertEqual(last(begins(6, so)), [-1])

    def test_what_is_not_so_is_not_so(self):
        rows = asked(begins(3, 5), worth(1, 1), worth(2, 10), worth(4, 100), best(0))
        self.assertEqual(rows[-1], [101, 0])


class WhatBeginsTakesAway(unittest.TestCase):

    def test_acts_and_worths_are_gone(self):
        rows = asked(
            begins(2, 0), act(0, 0, 1, 0, 3), act(0, 0, 2, 0, 3), worth(1, 5), worth(0, 7), best(9),
            begins(2, 0), best(9), act(0, 0, 2, 0, 4), worth(3, 5), best(9),
        )
        self.assertEqual(rows[5], [12, 3, 0])
        self.assertEqual(rows[6:], [[0], [0, 0], [0], [0], [0, 0]])

    def test_acts_alone_are_gone(self):
        rows = asked(begins(1, 0), act(0, 0, 1, 0, 3), begins(1, 0), worth(1, 5), best(9))
        self.assertEqual(rows[-1], [0, 0])

    def test_full_rows_are_empty_again(self):
        calls = [act(0, 0, 1, 0, 1)] * 10 + [worth(1, 1)] * 8
        rows = asked(*calls, act(0, 0, 1, 0, 1), worth(1, 1),
                     begins(1, 0), act(0, 0, 1, 0, 1), worth(1, 1))
        self.assertEqual(rows[-5:], [[-7], [-7], [0], [0], [0]])

    def test_fewer_facts_than_before(self):
        rows = asked(begins(6, 63), begins(1, 0), worth(1, 5), worth(2, 5), best(0))
        self.assertEqual(rows, [[0], [0], [0], [-1], [0, 0]])


class RefusedBegins(unittest.TestCase):

    def test_all_is_as_it_was(self):
        for refused in (begins(0, 0), begins(7, 0), begins(2, 4), begins(1, 2), begins(6, 64), begins(LARGEST, LARGEST)):
            with self.subTest(refused=refused):
                rows = asked(
                    begins(3, 4), act(4, 0, 1, 0, 3), worth(5, 5), refused,
                    best(9), start(7), start(8), act(0, 0, 4, 0, 1), worth(4, 1),
                )
                self.assertEqual(rows[3:], [[-1], [5, 3, 0], [0], [-1], [1], [1]])

    def test_a_new_house_is_as_it_was(self):
        rows = asked(begins(7, 1), worth(1, 4), worth(2, 4), best(0))
        self.assertEqual(rows, [[-1], [0], [-1], [0, 0]])
