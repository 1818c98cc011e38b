"""Point 1, start: what is so at first, and that nothing else changes with it."""

import unittest

from helper import LARGEST, act, asked, begins, best, start, worth

# One worth for each fact, so that what a state is worth tells which facts are so.
EACH_FACT = [worth(1 << k, 10 ** (k % 3) * (1 + k // 3 * 4)) for k in range(6)]


def telling(state):
    return sum(10 ** (k % 3) * (1 + k // 3 * 4) for k in range(6) if state >> k & 1)


class Start(unittest.TestCase):

    def test_every_set_that_is_there(self):
        for facts in range(1, 7):
            for so in range(1 << facts):
                with self.subTest(facts=facts, so=so):
                    rows = asked(begins(facts, 0), *EACH_FACT[:facts], start(so), best(0))
                    self.assertEqual(rows[-2:], [[0], [telling(so), 0]])

    def test_sets_that_are_not_there_change_nothing(self):
        for facts in range(1, 7):
            for so in (1 << facts, (1 << facts) + 1, 1 << 31, LARGEST):
                with self.subTest(facts=facts, so=so):
                    first = 1 << (facts - 1)
                    rows = asked(begins(facts, first), *EACH_FACT[:facts], start(so), best(0))
                    self.assertEqual(rows[-2:], [[-1], [telling(first), 0]])

    def test_acts_and_worths_stay(self):
        rows = asked(
            begins(2, 0), act(2, 0, 1, 0, 3), worth(1, 5), best(9), start(2), best(9),
            act(0, 0, 2, 0, 1), worth(2, 1),
        )
        self.assertEqual(rows[3:], [[0, 0], [0], [5, 3, 0], [1], [1]])

    def test_nothing_so_again(self):
        rows = asked(begins(2, 3), worth(0, 1), worth(1, 5), start(0), best(0))
        self.assertEqual(rows[-2:], [[0], [1, 0]])


class WithoutBegins(unittest.TestCase):

    def test_one_fact_is_there(self):
        self.assertEqual(asked(start(0), start(1), start(2), start(LARGEST)), [[0], [0], [-1], [-1]])

    def test_it_is_not_so(self):
        self.assertEqual(asked(worth(1, 5), best(0), start(1), best(0)), [[0], [0, 0], [0], [5, 0]])

    def test_a_refused_start_leaves_it(self):
        self.assertEqual(asked(worth(1, 5), start(1), start(2), best(0)), [[0], [0], [-1], [5, 0]])
        self.assertEqual(asked(worth(1, 5), start(3), best(0)), [[0], [-1], [0, 0]])
