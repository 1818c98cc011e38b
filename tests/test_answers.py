"""The interface: the one list that is handed in, and the one that is given back."""

import contextlib
import io
import unittest

from helper import LARGEST, act, begins, best, drop, front, joined, least, net, start, worth
from worthmost.ends import answers

HOUSE = joined([
    begins(2, 0), act(0, 0, 1, 0, 3), act(1, 0, 2, 0, 4), worth(2, 9), worth(1, 1), best(7), best(6), best(2),
    least(2), net(), front(), least(11), drop(1), front(), drop(1), start(1), net(),
])


class TheListGivenBack(unittest.TestCase):

    def test_each_call_alone(self):
        self.assertEqual(answers([0, 1, 0]), [1, 0])
        self.assertEqual(answers([1, 5, 0, 0, 1, 0, 1]), [1, 0])
        self.assertEqual(answers([2, 1, 1]), [1, 0])
        self.assertEqual(answers([3, 1]), [1, 0])
        self.assertEqual(answers([4, 0]), [2, 0, 0])
        self.assertEqual(answers([5, 0]), [2, 0, 0])
        self.assertEqual(answers([6]), [3, 0, 0, 0])
        self.assertEqual(answers([7]), [3, 1, 0, 0])
        self.assertEqual(answers([2, 1, 1, 8, 0]), [1, 0, 1, 0])

    def test_each_refusal_alone(self):
        self.assertEqual(answers([0, 0, 0]), [1, -1])
        self.assertEqual(answers([1, 0]), [1, -1])
        self.assertEqual(answers([2, 2, 1]), [1, -1])
        self.assertEqual(answers([3, 2]), [1, -1])
        self.assertEqual(answers([5, 1]), [1, -6])
        self.assertEqual(answers([8, 0]), [1, -2])

    def test_several_calls_one_behind_another(self):
        self.assertEqual(answers(HOUSE), [
            1, 0, 1, 0, 1, 1, 1, 0, 1, 1, 4, 10, 7, 0, 1, 3, 1, 3, 0, 2, 0, 0,
            4, 7, 10, 0, 1, 5, 0, 10, 7, 0, 1, 7, 3, 0, 0, 3, 1, 7, 10, 1, -6,
            1, 1, 5, 2, 0, 0, 7, 9, 1, -2, 1, 0, 4, 0, 9, 4, 1,
        ])

    def test_refusals_between_others(self):
        calls = joined([begins(7, 0), start(1), act(1, 2, 3), worth(1, 4), worth(1, 0), best(0), start(LARGEST), best(1)])
        self.assertEqual(answers(calls), [1, -1, 1, 0, 1, -1, 1, 0, 1, -1, 2, 4, 0, 1, -1, 2, 4, 0])

    def test_refusals_between_those_that_ask(self):
        calls = joined([
            worth(0, 4), drop(1), least(5), net(), drop(LARGEST), front(), least(LARGEST), least(4), drop(0),
        ])
        self.assertEqual(answers(calls), [1, 0, 1, -2, 1, -6, 3, 0, 4, 0, 1, -2, 3, 1, 0, 4, 1, -6, 2, 0, 4, 1, 0])

    def test_rows_of_every_length_are_passed_over(self):
        for count in range(7):
            with self.subTest(count=count):
                calls = joined([act(*[4] * count), best(5), start(1)])
                self.assertEqual(answers(calls), [1, -1, 2, 0, 0, 1, 0])

    def test_full_rows_answer_one_number(self):
        calls = joined([act(0, 0, 1, 0, 1)] * 11 + [worth(1, 1)] * 9)
        taken = [number for k in range(10) for number in (1, k)] + [1, -7]
        self.assertEqual(answers(calls), taken + [number for k in range(8) for number in (1, k)] + [1, -7])

    def test_sixty_calls(self):
        calls = joined([begins(6, 0)] * 30 + [start(64)] * 20 + [best(LARGEST)] * 10)
        self.assertEqual(answers(calls), [1, 0] * 30 + [1, -1] * 20 + [2, 0, 0] * 10)

    def test_kinds(self):
        given = answers(HOUSE)
        self.assertIs(type(given), list)
        self.assertEqual({type(number) for number in given}, {int})


class NothingIsKeptOrChanged(unittest.TestCase):

    def test_the_list_handed_in_is_as_it_was(self):
        calls = list(HOUSE)
        answers(calls)
        self.assertEqual(calls, HOUSE)

    def test_it_is_not_changed_for_a_while_either(self):
        class Watched(list):
            def refuse(self, *rest):
                raise AssertionError("the list that was handed in is changed")
            __setitem__ = __delitem__ = __iadd__ = __imul__ = refuse
            append = extend = insert = pop = remove = clear = sort = reverse = refuse
        self.assertEqual(answers(Watched(HOUSE)), answers(HOUSE))

    def test_what_is_given_back_is_another_list_each_time(self):
        calls = list(HOUSE)
        first = answers(calls)
        kept = list(first)
        first.clear()
        self.assertEqual(answers(calls), kept)

    def test_a_second_time_answers_like_the_first(self):
        first = answers(HOUSE)
        self.assertEqual(answers(HOUSE), first)

    def test_the_house_is_new_each_time(self):
        answers(joined([begins(6, 63)] + [act(0, 0, 1, 0, 1)] * 10 + [worth(0, 1)] * 8))
        calls = joined([start(2), best(9), least(1), net(), front(), drop(0), act(0, 0, 1, 0, 1), worth(1, 1)])
        self.assertEqual(answers(calls), [1, -1, 2, 0, 0, 1, -6, 3, 0, 0, 0, 3, 1, 0, 0, 1, -2, 1, 0, 1, 0])

    def test_nothing_is_printed(self):
        out, err = io.StringIO(), io.StringIO()
        with contextlib.redirect_stdout(out), contextlib.redirect_stderr(err):
            answers(HOUSE)
        self.assertEqual((out.getvalue(), err.getvalue()), ("", ""))
