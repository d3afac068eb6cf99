"""The calls times and steps (promise 2: the refusal of times)."""

import random
import unittest
from fractions import Fraction

from tests.lines import BEST, JOBS, STEPS, TOP, AllAsItWas, asked, cost, gone, job, last, pay, times, tools

# Worth having only together: 36 is paid, 30 is the cost.
THREE = [tools(10, 10, 10), job(12, 3), job(12, 6), job(12, 5)]


class Times(unittest.TestCase, AllAsItWas):
    def test_at_the_beginning(self):
        self.assertEqual(last(times(1, 1)), [0, 1, 0, 1])
        self.assertEqual(last(times(0, 1)), [0, 1, 0, 1])

    def test_whole_answers(self):
        self.assertEqual(last(*THREE, times(1, 1)), [6, 1, 7, 7])
        self.assertEqual(last(*THREE, times(1, 2)), [21, 1, 7, 7])
        self.assertEqual(last(*THREE, times(7, 10)), [15, 1, 7, 7])

    def test_answers_that_are_not_whole_in_lowest_terms(self):
        self.assertEqual(last(*THREE, times(1, 7)), [222, 7, 7, 7])
        self.assertEqual(last(*THREE, times(1, 4)), [57, 2, 7, 7])
        self.assertEqual(last(*THREE, times(1, 1000)), [3597, 100, 7, 7])
        self.assertEqual(last(tools(1), job(1, 1), times(999, 1000)), [1, 1000, 1, 1])

    def test_factors_that_are_not_in_lowest_terms(self):
        for many in (1, 2, 3, 10, 142):
            self.assertEqual(last(*THREE, times(many, 7 * many)), [222, 7, 7, 7])

    def test_at_the_factor_0(self):
        self.assertEqual(last(*THREE, times(0, 1)), [36, 1, 7, 7])
        self.assertEqual(last(*THREE, times(0, 1000)), [36, 1, 7, 7])
        self.assertEqual(last(tools(5, 6), job(3, 1), times(0, 7)), [3, 1, 1, 3])
        self.assertEqual(last(tools(5, 6), job(0, 1), times(0, 7)), [0, 1, 0, 3])

    def test_around_a_step(self):
        self.assertEqual(last(*THREE, times(1199, 1000)), [-1])
        self.assertEqual(last(*THREE, times(599, 500)), [3, 50, 7, 7])
        self.assertEqual(last(*THREE, times(6, 5)), [0, 1, 0, 7])
        self.assertEqual(last(*THREE, times(601, 500)), [0, 1, 0, 0])

    def test_around_a_step_behind_which_something_is_left(self):
        line = [tools(4, 6), job(10, 1), job(9, 2)]
        self.assertEqual(last(*line, times(149, 100)), [41, 10, 3, 3])
        self.assertEqual(last(*line, times(3, 2)), [4, 1, 1, 3])
        self.assertEqual(last(*line, times(151, 100)), [99, 25, 1, 1])

    def test_nothing_is_left(self):
        self.assertEqual(last(*THREE, times(1000, 1)), [0, 1, 0, 0])
        self.assertEqual(last(tools(5, 0), times(3, 9)), [0, 1, 0, 2])
        self.assertEqual(last(tools(1, 0), job(4, 2), times(1000, 1)), [4, 1, 2, 2])

    def test_greatest_sums(self):
        jobs = [job(1000, 31)] * 5
        self.assertEqual(last(tools(*[1000] * 5), *jobs, times(1, 1000)), [4995, 1, 31, 31])
        self.assertEqual(last(tools(*[999] * 5), *jobs, times(1, 1000)), [999001, 200, 31, 31])
        self.assertEqual(last(tools(*[1000] * 5), *jobs, times(1000, 1000)), [0, 1, 0, 31])

    def test_numbers_at_their_edges(self):
        for above, below in ((0, 1), (0, 1000), (1, 1), (1000, 1), (1, 1000), (1000, 1000)):
            self.assertEqual(last(times(above, below)), [0, 1, 0, 1])
        for above, below in ((0, 0), (1, 0), (1000, 0), (1001, 0), (1001, 1), (0, 1001), (1001, 1001), (1, 1001),
                             (TOP, 1), (1, TOP), (TOP, TOP), (TOP, 0), (0, TOP)):
            self.assertEqual(last(times(above, below)), [-1], (above, below))

    def test_follows_each_change(self):
        told = asked(tools(4, 4), job(5, 1), times(1, 2), pay(1, 4), times(1, 2), cost(1, 3), times(1, 2),
                     gone(1), times(1, 2))
        self.assertEqual(told[2::2], [[3, 1, 1, 1], [2, 1, 1, 1], [5, 2, 1, 1], [0, 1, 0, 0]])

    def test_changes_nothing(self):
        told = asked(*THREE, times(1, 3), JOBS, BEST, times(1, 3))
        self.assertEqual(told[4:], [[26, 1, 7, 7], [3, 1, 12, 3, 2, 12, 6, 3, 12, 5], [6, 1, 7, 7], [26, 1, 7, 7]])

    def test_refused_leaves_all_as_it_was(self):
        for wrong in (times(1, 0), times(1001, 1), times(1, 1001), times(TOP, TOP)):
            self.check_refused(THREE, 3, wrong, -1)


class Steps(unittest.TestCase):
    def test_at_the_beginning(self):
        self.assertEqual(last(STEPS), [0, 0])

    def test_no_job(self):
        self.assertEqual(last(tools(1, 2, 3), STEPS), [0, 0])
        self.assertEqual(last(tools(0, 0), STEPS), [0, 0])
        self.assertEqual(last(tools(4), job(9, 1), gone(1), STEPS), [0, 0])

    def test_none_as_jobs_pay_nothing(self):
        self.assertEqual(last(tools(4, 5), job(0, 3), job(0, 1), STEPS), [0, 0])
        self.assertEqual(last(tools(0, 5), job(0, 3), STEPS), [0, 0])

    def test_none_as_tools_cost_nothing(self):
        self.assertEqual(last(tools(0, 0), job(5, 1), STEPS), [1, 0])
        self.assertEqual(last(tools(0, 0), job(5, 1), job(6, 3), STEPS), [3, 0])
        self.assertEqual(last(tools(0, 9), job(5, 1), job(0, 2), STEPS), [1, 0])

    def test_one(self):
        self.assertEqual(last(tools(4), job(10, 1), STEPS), [1, 1, 5, 2, 0])
        self.assertEqual(last(tools(4), job(8, 1), STEPS), [1, 1, 2, 1, 0])
        self.assertEqual(last(tools(4, 9, 7), job(10, 4), STEPS), [4, 1, 10, 7, 0])

    def test_several(self):
        line = [tools(1, 2, 3), job(6, 1), job(6, 2), job(6, 4)]
        self.assertEqual(last(*line, STEPS), [7, 3, 2, 1, 3, 3, 1, 1, 6, 1, 0])

    def test_as_many_as_there_are_tools(self):
        line = [tools(1, 2, 3, 4, 5)] + [job(60, 1 << place) for place in range(5)]
        self.assertEqual(last(*line, STEPS), [31, 5, 12, 1, 15, 15, 1, 7, 20, 1, 3, 30, 1, 1, 60, 1, 0])

    def test_several_tools_given_up_at_once_that_serve_together(self):
        self.assertEqual(last(*THREE, STEPS), [7, 1, 6, 5, 0])
        self.assertEqual(last(tools(7, 4, 9, 0), job(5, 1), job(8, 3), job(3, 12), job(20, 4), STEPS),
                         [15, 2, 13, 11, 12, 23, 9, 0])

    def test_several_tools_given_up_at_once_by_chance(self):
        line = [tools(2, 3, 5), job(4, 1), job(6, 2), job(5, 4)]
        self.assertEqual(last(*line, STEPS), [7, 2, 1, 1, 3, 2, 1, 0])

    def test_a_tool_that_costs_nothing_stays_for_its_own_job(self):
        self.assertEqual(last(tools(0, 4), job(3, 1), job(2, 2), STEPS), [3, 1, 1, 2, 1])

    def test_a_tool_that_costs_nothing_goes_with_the_last_job_that_pays_for_it(self):
        self.assertEqual(last(tools(0, 4), job(2, 3), STEPS), [3, 1, 1, 2, 0])
        self.assertEqual(last(tools(0, 4), job(2, 3), job(0, 1), STEPS), [3, 1, 1, 2, 0])

    def test_a_job_that_pays_nothing_keeps_no_tool(self):
        self.assertEqual(last(tools(4, 5), job(0, 1), job(10, 2), STEPS), [2, 1, 2, 1, 0])
        self.assertEqual(last(tools(4, 5), job(0, 3), job(10, 2), STEPS), [2, 1, 2, 1, 0])

    def test_lowest_and_highest_factors(self):
        self.assertEqual(last(tools(*[1000] * 5), job(1, 31), STEPS), [31, 1, 1, 5000, 0])
        self.assertEqual(last(tools(1), *[job(1000, 1)] * 5, STEPS), [1, 1, 5000, 1, 0])

    def test_follows_each_change(self):
        told = asked(tools(4, 4), job(5, 1), STEPS, pay(1, 4), STEPS, cost(1, 3), STEPS, cost(1, 0), STEPS)
        self.assertEqual(told[2::2], [[1, 1, 5, 4, 0], [1, 1, 1, 1, 0], [1, 1, 4, 3, 0], [1, 0]])

    def test_changes_nothing(self):
        told = asked(*THREE, STEPS, JOBS, BEST, STEPS)
        self.assertEqual(told[5:7], [[3, 1, 12, 3, 2, 12, 6, 3, 12, 5], [6, 1, 7, 7]])
        self.assertEqual(told[4], told[7])

    def test_the_least_of_times_is_that_of_the_steps(self):
        source = random.Random(8)
        for unused in range(200):
            many = source.randint(1, 5)
            line = [tools(*[source.randint(0, 6) for unused in range(many)])]
            for unused in range(source.randint(0, 5)):
                line.append(job(source.randint(0, 9), source.randint(1, (1 << many) - 1)))
            self.check_times(line, last(*line, STEPS))

    def check_times(self, line, told):
        found = [(Fraction(0), told[0])]
        for place in range(2, len(told), 3):
            found.append((Fraction(told[place], told[place + 1]), told[place + 2]))
        self.assertEqual(len(found), told[1] + 1)
        for place, (factor, least) in enumerate(found):
            behind = found[place + 1] if place + 1 < len(found) else (factor + 2, None)
            self.assertLess(factor, behind[0])
            between = (factor + behind[0]) / 2
            for asked_for in (factor, between):
                call = times(asked_for.numerator, asked_for.denominator)
                self.assertEqual(last(*line, call)[2], least, (line, told))


if __name__ == "__main__":
    unittest.main()
