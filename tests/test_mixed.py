"""All nine calls in one list, with begins again and refusals between, and long lists over the largest houses."""

import unittest

from helper import (
    LARGEST, Dice, PlainHouse, act, asked, begins, best, counting_acts, drop, ends_by_length, front, joined, least,
    net, plain_best, plain_front, plain_least, plain_net, start, valued, worth,
)
from worthmost.ends import answers

ASKING = (4, 5, 6, 7)


def any_set(dice):
    return LARGEST if dice.below(40) == 0 else dice.below(8) & dice.below(9)


def any_price(dice):
    return (0, 1000, 1001, LARGEST)[dice.below(4)] if dice.below(12) == 0 else 1 + dice.below(4)


def any_act(dice):
    needs, bars = any_set(dice) & any_set(dice), any_set(dice) & any_set(dice)
    parts = [needs, bars, any_set(dice), any_set(dice), any_price(dice)]
    if dice.below(12) == 0:
        return act(*(parts + [1])[:dice.below(7)])
    return act(*parts)


def any_call(dice, kinds):
    kind = kinds[dice.below(len(kinds))]
    if kind == 0:
        return begins(dice.below(5) if dice.below(4) == 0 else 3, any_set(dice))
    if kind == 1:
        return any_act(dice)
    if kind == 2:
        return worth(any_set(dice), any_price(dice))
    if kind == 3:
        return start(any_set(dice))
    if kind == 8:
        return drop(LARGEST if dice.below(20) == 0 else dice.below(6))
    if kind == 4:
        return best(LARGEST if dice.below(5) == 0 else dice.below(9))
    if kind == 5:
        return least(LARGEST if dice.below(20) == 0 else dice.below(9))
    return [kind]


def any_list(dice, length):
    """So many calls, of which at most 10 are best, least, net and front."""
    calls = [begins(3, dice.below(8))]
    asking = 0
    while len(calls) < length:
        kinds = (0, 1, 1, 1, 1, 2, 2, 2, 2, 3, 8, 8) + (ASKING if asking < 10 else ())
        calls.append(any_call(dice, kinds))
        asking += calls[-1][0] in ASKING
    return calls


class OneListWithAllCalls(unittest.TestCase):

    def test_one_that_can_be_followed(self):
        rows = asked(
            front(), net(), least(1), best(5), drop(0), act(0, 0, 2, 0, 1),
            begins(2, 0), act(0, 0, 1, 0, 3), act(1, 0, 2, 0, 4), worth(1, 5), worth(3, 1), worth(2, 9), worth(4, 1),
            best(7), least(6), net(), front(), drop(3), drop(0), net(), start(2), least(1), start(4),
            begins(7, 0), drop(1), begins(1, 1), drop(0), worth(1, 2), front(), act(), net(),
        )
        self.assertEqual(rows, [
            [1, 0, 0], [0, 0, 0], [-6], [0, 0], [-2], [-1],
            [0], [0], [1], [0], [1], [2], [-1],
            [15, 7, 0, 1], [7, 15, 0, 1], [0, 15, 7, 0, 1], [3, 0, 0, 3, 5, 7, 15], [-2], [2], [0, 10, 7, 0, 1],
            [0], [0, 9], [-1],
            [-1], [1], [0], [-2], [0], [1, 0, 2], [-1], [0, 2, 0],
        ])

    def test_compared_with_a_plain_house(self):
        dice = Dice(11)
        refused = {}
        for number in range(120):
            calls = any_list(dice, 1 + dice.below(60))
            house = PlainHouse()
            plain = [house.answer(call) for call in calls]
            for call, row in zip(calls, plain):
                if row[0] < 0:
                    refused[call[0], row[0]] = True
            with self.subTest(calls=calls):
                self.assertEqual(asked(*calls), plain)
        # The lists are of use only if each refusal that the document names stands in one of them.
        self.assertEqual(sorted(refused), [(0, -1), (1, -7), (1, -1), (2, -7), (2, -1), (3, -1), (5, -6), (8, -2)])

    def test_asking_between_changes_nothing(self):
        dice = Dice(12)
        for number in range(40):
            calls = any_list(dice, 40)
            telling = [call for call in calls if call[0] not in ASKING]
            rows = asked(*calls)
            told = [row for call, row in zip(calls, rows) if call[0] not in ASKING]
            with self.subTest(calls=calls):
                self.assertEqual(asked(*telling), told)

    def test_refused_calls_may_be_left_out(self):
        dice = Dice(13)
        for number in range(40):
            calls = any_list(dice, 40)
            rows = asked(*calls)
            kept = [(call, row) for call, row in zip(calls, rows) if row[0] >= 0]
            with self.subTest(calls=calls):
                self.assertEqual(asked(*[call for call, row in kept]), [row for call, row in kept])


class SixtyCallsOverSixFacts(unittest.TestCase):

    def sixty(self, acts, worths, first):
        """begins, ten acts and eight worths; then ten times one that asks, with others and refusals between."""
        asking = [best(LARGEST), least(1), net(), front(), best(40), least(900), net(), front(),
                  least(LARGEST), best(0)]
        calls = [begins(6, first)] + [act(*parts) for parts in acts] + [worth(*pair) for pair in worths]
        for number, call in enumerate(asking):
            calls += [call, start(64 + number), drop(8 + number), worth(number, 5)]
        calls.append(begins(0, 0))
        self.assertEqual(len(calls), 60)
        self.assertLessEqual(len(joined(calls)), 520)
        return calls

    def test_against_a_search_by_length(self):
        dice = Dice(14)
        for number in range(10):
            acts = [(dice.below(64) & dice.below(64) & dice.below(64), 0, 1 << dice.below(6),
                     dice.below(64) & dice.below(64) & dice.below(64), 1 + dice.below(30)) for k in range(10)]
            worths = [(dice.below(64) & dice.below(64), 1 + dice.below(300)) for k in range(8)]
            first = dice.below(64)
            ends = valued(ends_by_length(first, acts, 63), worths)
            told = [plain_best(ends, LARGEST), plain_least(ends, 1), plain_net(ends), plain_front(ends),
                    plain_best(ends, 40), plain_least(ends, 900), plain_net(ends), plain_front(ends),
                    [-6], plain_best(ends, 0)]
            expected = [[0]] + [[k] for k in range(10)] + [[k] for k in range(8)]
            for row in told:
                expected += [row, [-1], [-2], [-7]]
            with self.subTest(first=first, acts=acts, worths=worths):
                self.assertEqual(asked(*self.sixty(acts, worths, first)), expected + [[-1]])

    def test_the_longest_ends(self):
        acts = [tuple(call[2:]) for call in counting_acts(1000)] + [(63, 0, 0, 63, 1)] * 4
        worths = [(1 << k, 1 << k) for k in range(6)] + [(63, 1000), (63, 1000)]
        row = [(~state & (state + 1)).bit_length() - 1 for state in range(63)]
        rows = asked(*self.sixty(acts, worths, 0))
        pairs = [number for k in range(63) for number in (k * 1000, k)] + [63000, 2063]
        self.assertEqual(rows[19::4][:10], [
            [2063, 63000] + row, [1000, 1, 0], [0, 0, 0], [64] + pairs, [0, 0], [63000, 2063] + row, [0, 0, 0],
            [64] + pairs, [-6], [0, 0],
        ])

    def test_the_list_handed_in_and_a_second_time(self):
        acts = [(0, 0, 1 << k % 6, 0, 1 + k) for k in range(10)]
        calls = joined(self.sixty(acts, [(1 << k % 6, 50 + k) for k in range(8)], 0))
        kept = list(calls)
        first = answers(calls)
        self.assertEqual(calls, kept)
        self.assertEqual(answers(calls), first)
        self.assertEqual(calls, kept)
