"""How calls are handed in and answers given back."""

import unittest

from jobtools.shop import answers
from tests.lines import (BEST, JOBS, STEPS, TOP, cost, gone, job, joined, lacks, look, money, pay, shares, spare, split,
                         times, tools)

EACH_CALL = [
    0, 3, 4, 5, 6,
    1, 9, 3,
    1, 20, 4,
    5,
    6, 7,
    3, 1, 8,
    4, 3, 20,
    5,
    7, 1, 3,
    8,
    9, 1,
    10, 1,
    11, 9,
    12, 7,
    13,
    2, 1,
    6, 8,
    7, 1, 0,
    9, 1,
    10, 4,
    12, 8,
    13,
]
EACH_ANSWER = [
    1, 3,
    1, 1,
    1, 2,
    4, 14, 2, 4, 7,
    6, 0, 14, 15, 2, 1, 2,
    1, 0,
    1, 0,
    4, 0, 2, 0, 4,
    4, 55, 3, 7, 7,
    8, 7, 2, 8, 9, 4, 1, 1, 0,
    1, 1,
    2, 0, -1,
    2, 0, 0,
    7, 2, 1, 9, 1, 2, 20, 1,
    7, 2, 1, 8, 3, 2, 20, 4,
    1, 1,
    1, -1,
    1, -1,
    1, -2,
    1, -1,
    1, -1,
    4, 1, 2, 20, 4,
]

# Whole lists, and what the document asks of each.
WHOLE_LISTS = [
    ([0, 3, 10, 10, 10, 1, 12, 3, 1, 12, 6, 1, 12, 5, 8, 7, 6, 5, 7, 2, 1],
     [1, 3, 1, 1, 1, 2, 1, 3, 5, 7, 1, 6, 5, 0, 4, 0, 1, 0, 7, 4, 0, 1, 0, 0]),
    ([0, 3, 10, 10, 10, 1, 12, 3, 1, 12, 6, 1, 12, 5, 9, 1, 10, 1, 10, 2, 11, 25, 11, 30, 11, 4294967295],
     [1, 3, 1, 1, 1, 2, 1, 3, 1, 0, 2, 0, 6, 2, 0, 6, 2, 0, 0, 2, 6, 7, 2, 6, 7]),
    ([0, 3, 10, 10, 10, 1, 12, 3, 1, 12, 6, 1, 12, 5, 12, 7, 12, 3, 12, 0, 12, 8, 13],
     [1, 3, 1, 1, 1, 2, 1, 3, 10, 3, 1, 10, 1, 2, 10, 1, 3, 10, 1, 4, 1, 1, 20, 1, 1, 0, 1, -1,
      10, 3, 1, 12, 3, 2, 12, 6, 3, 12, 5]),
    ([0, 4, 7, 4, 9, 0, 1, 5, 1, 1, 8, 3, 1, 3, 12, 1, 20, 4, 12, 15, 8, 13],
     [1, 4, 1, 1, 1, 2, 1, 3, 1, 4, 13, 4, 1, 11, 2, 2, 11, 2, 3, 9, 2, 4, 9, 2, 8, 15, 2, 13, 11, 12, 23, 9, 0,
      13, 4, 1, 5, 1, 2, 8, 3, 3, 3, 12, 4, 20, 4]),
    ([7, 1, 0, 7, 1001, 1, 7, 0, 1001, 7, 1000, 1000, 7, 0, 1, 8, 12, 1, 12, 2, 9, 1, 10, 0, 10, 1, 10, 2, 11, 0, 13],
     [1, -1, 1, -1, 1, -1, 4, 0, 1, 0, 1, 4, 0, 1, 0, 1, 2, 0, 0, 1, 0, 1, -1, 1, -2, 1, -1, 2, 0, 0, 1, -1,
      2, 0, 0, 1, 0]),
    ([0, 2, 6, 6, 1, 4, 3, 1, 4, 3, 8, 10, 1, 10, 2, 9, 1, 9, 2, 9, 3, 12, 3],
     [1, 2, 1, 1, 1, 2, 5, 3, 1, 2, 3, 0, 2, 0, -4, 2, 0, -4, 1, 4, 1, 4, 1, -2, 7, 2, 1, 6, 1, 2, 6, 1]),
]


class Interface(unittest.TestCase):
    def test_counts_stand_before_the_answers(self):
        self.assertEqual(answers(list(EACH_CALL)), EACH_ANSWER)

    def test_whole_lists(self):
        for calls, told in WHOLE_LISTS:
            self.assertEqual(answers(list(calls)), told)

    def test_each_call_by_itself(self):
        self.assertEqual(answers([0, 2, 8, 9]), [1, 2])
        self.assertEqual(answers([1, 10, 1]), [1, 1])
        self.assertEqual(answers([2, 1]), [1, -2])
        self.assertEqual(answers([3, 1, 1]), [1, -2])
        self.assertEqual(answers([4, 1, 1]), [1, 0])
        self.assertEqual(answers([5]), [4, 0, 2, 0, 1])
        self.assertEqual(answers([6, 1]), [4, 0, 0, 0, 0])
        self.assertEqual(answers([7, 3, 4]), [4, 0, 1, 0, 1])
        self.assertEqual(answers([8]), [2, 0, 0])
        self.assertEqual(answers([9, 1]), [1, -2])
        self.assertEqual(answers([10, 1]), [2, 0, 0])
        self.assertEqual(answers([11, 5]), [2, 0, 0])
        self.assertEqual(answers([12, 1]), [1, 0])
        self.assertEqual(answers([13]), [1, 0])

    def test_each_call_with_the_greatest_numbers(self):
        calls = [tools(TOP), job(TOP, TOP), gone(TOP), pay(TOP, TOP), cost(TOP, TOP), look(TOP), times(TOP, TOP),
                 lacks(TOP), spare(TOP), money(TOP), shares(TOP), JOBS]
        self.assertEqual(split(answers(joined(calls))),
                         [[-1], [-1], [-2], [-1], [-1], [-1], [-1], [-2], [-1], [0, 0], [-1], [0]])

    def test_rows_of_0_to_10_numbers_are_read_whole(self):
        for many in range(11):
            told = many if 1 <= many <= 5 else -1
            self.assertEqual(answers([0, many] + [5] * many + [5]), [1, told, 4] + (
                [0, 1, 0, 0] if told > 0 else [0, 2, 0, 1]))

    def test_what_is_handed_in_stays_as_it_is(self):
        calls = list(EACH_CALL)
        answers(calls)
        self.assertEqual(calls, EACH_CALL)

    def test_what_is_handed_in_is_never_changed_for_a_while(self):
        self.assertEqual(answers(Unchanging(EACH_CALL)), EACH_ANSWER)

    def test_nothing_is_kept_from_one_time_to_the_next(self):
        calls = list(EACH_CALL)
        first = answers(calls)
        answers([0, 2, 8, 9, 1, 5, 1])
        self.assertEqual(answers(calls), first)
        self.assertEqual(answers([5]), [4, 0, 2, 0, 1])
        self.assertEqual(answers([1, 3, 1]), [1, 1])

    def test_what_was_given_back_is_not_used_again(self):
        first = answers([5])
        first.append(99)
        self.assertEqual(answers([5]), [4, 0, 2, 0, 1])

    def test_gives_back_a_list_of_whole_numbers(self):
        told = answers(list(EACH_CALL))
        self.assertIs(type(told), list)
        self.assertEqual({type(number) for number in told}, {int})

    def test_forty_calls(self):
        calls = [tools(1, 2, 3, 4, 5)] + [job(30, 31), gone(1), pay(1, 2), cost(1, 1), BEST, look(31)] * 6
        calls = calls + [BEST] * 3
        self.assertEqual(len(calls), 40)
        told = answers(joined(calls))
        self.assertEqual(told[:4], [1, 5, 1, 1])
        # Job 1 goes at once, the five behind it stay: 5 times 30, less 15 for the tools.
        self.assertEqual(told[-5:], [4, 135, 1, 31, 31])


    def test_forty_questions_with_the_longest_answers(self):
        shop = [tools(1, 2, 3, 4, 5)] + [job(60, 1 << place) for place in range(5)]
        asked_for = [STEPS, JOBS, shares(31), look(31), times(1, 7), lacks(5), spare(5), money(TOP)]
        calls = shop + asked_for * 4 + [gone(1), STEPS]
        self.assertEqual(len(calls), 40)
        told = split(answers(joined(calls)))
        self.assertEqual(told[6:14], [
            [31, 5, 12, 1, 15, 15, 1, 7, 20, 1, 3, 30, 1, 1, 60, 1, 0],
            [5, 1, 60, 1, 2, 60, 2, 3, 60, 4, 4, 60, 8, 5, 60, 16],
            [5, 1, 1, 1, 2, 2, 1, 3, 3, 1, 4, 4, 1, 5, 5, 1],
            [0, 285, 15, 5, 1, 2, 3, 4, 5],
            [2085, 7, 31, 31],
            [0],
            [0, 55],
            [285, 31],
        ])
        for place in range(14, 38):
            self.assertEqual(told[place], told[place - 8])
        self.assertEqual(told[38:], [[4], [30, 4, 12, 1, 14, 15, 1, 6, 20, 1, 2, 30, 1, 0]])


class Unchanging(list):
    """A list that tells when it is changed."""

    def refuse(self, *given, **named):
        raise AssertionError("the list handed in is changed")

    append = extend = insert = pop = remove = clear = reverse = sort = refuse
    __setitem__ = __delitem__ = __iadd__ = __imul__ = refuse


if __name__ == "__main__":
    unittest.main()
