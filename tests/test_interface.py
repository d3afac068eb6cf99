"""How calls are handed in and answers given back."""

import unittest

from jobtools.shop import answers
from tests.lines import BEST, cost, gone, job, joined, look, pay, tools

EACH_CALL = [
    0, 3, 4, 5, 6,
    1, 9, 3,
    1, 20, 4,
    5,
    6, 7,
    3, 1, 8,
    4, 3, 20,
    5,
    2, 1,
    6, 8,
]
EACH_ANSWER = [
    1, 3,
    1, 1,
    1, 2,
    4, 14, 2, 4, 7,
    6, 0, 14, 15, 2, 1, 2,
    1, 0,
    1, 0,
    4, 0, 2, 0, 4,
    1, 1,
    1, -1,
]


class Interface(unittest.TestCase):
    def test_counts_stand_before_the_answers(self):
        self.assertEqual(answers(list(EACH_CALL)), EACH_ANSWER)

    def test_each_call_by_itself(self):
        self.assertEqual(answers([0, 2, 8, 9]), [1, 2])
        self.assertEqual(answers([1, 10, 1]), [1, 1])
        self.assertEqual(answers([2, 1]), [1, -2])
        self.assertEqual(answers([3, 1, 1]), [1, -2])
        self.assertEqual(answers([4, 1, 1]), [1, 0])
        self.assertEqual(answers([5]), [4, 0, 2, 0, 1])
        self.assertEqual(answers([6, 1]), [4, 0, 0, 0, 0])

    def test_rows_of_0_to_10_numbers_are_read_whole(self):
        for many in range(11):
            told = many if 1 <= many <= 5 else -1
            self.assertEqual(answers([0, many] + [5] * many + [5]), [1, told, 4] + (
                [0, 1, 0, 0] if told > 0 else [0, 2, 0, 1]))

    def test_what_is_handed_in_stays_as_it_is(self):
        calls = list(EACH_CALL)
        answers(calls)
        self.assertEqual(calls, EACH_CALL)

    def test_what_is_handed_in_is_never_changed_for_a_while(self):
        self.assertEqual(answers(Unchanging(EACH_CALL)), EACH_ANSWER)

    def test_nothing_is_kept_from_one_time_to_the_next(self):
        calls = list(EACH_CALL)
        first = answers(calls)
        answers([0, 2, 8, 9, 1, 5, 1])
        self.assertEqual(answers(calls), first)
        self.assertEqual(answers([5]), [4, 0, 2, 0, 1])
        self.assertEqual(answers([1, 3, 1]), [1, 1])

    def test_what_was_given_back_is_not_used_again(self):
        first = answers([5])
        first.append(99)
        self.assertEqual(answers([5]), [4, 0, 2, 0, 1])

    def test_gives_back_a_list_of_whole_numbers(self):
        told = answers(list(EACH_CALL))
        self.assertIs(type(told), list)
        self.assertEqual({type(number) for number in told}, {int})

    def test_forty_calls(self):
        calls = [tools(1, 2, 3, 4, 5)] + [job(30, 31), gone(1), pay(1, 2), cost(1, 1), BEST, look(31)] * 6
        calls = calls + [BEST] * 3
        self.assertEqual(len(calls), 40)
        told = answers(joined(calls))
        self.assertEqual(told[:4], [1, 5, 1, 1])
        # Job 1 goes at once, the five behind it stay: 5 times 30, less 15 for the tools.
        self.assertEqual(told[-5:], [4, 135, 1, 31, 31])


class Unchanging(list):
    """A list that tells when it is changed."""

    def refuse(self, *given, **named):
        raise AssertionError("the list handed in is changed")

    append = extend = insert = pop = remove = clear = reverse = sort = refuse
    __setitem__ = __delitem__ = __iadd__ = __imul__ = refuse


if __name__ == "__main__":
    unittest.main()
