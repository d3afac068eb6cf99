"""The calls best, look and jobs (look's refusal is of promise 2)."""

import unittest

from tests.lines import BEST, JOBS, TOP, asked, cost, gone, job, last, look, pay, tools


class Best(unittest.TestCase):
    def test_at_the_beginning(self):
        self.assertEqual(last(BEST), [0, 2, 0, 1])

    def test_no_job_and_tools_that_cost(self):
        self.assertEqual(last(tools(1, 2, 3), BEST), [0, 1, 0, 0])

    def test_no_job_and_tools_some_of_which_cost_nothing(self):
        self.assertEqual(last(tools(0, 2, 0), BEST), [0, 4, 0, 5])
        self.assertEqual(last(tools(0, 0, 0, 0, 0), BEST), [0, 32, 0, 31])

    def test_no_job_is_left(self):
        self.assertEqual(last(tools(2, 0), job(9, 1), gone(1), BEST), [0, 2, 0, 2])

    def test_one_set_only(self):
        self.assertEqual(last(tools(5, 6, 7), job(10, 1), job(5, 2), job(8, 4), BEST), [6, 1, 5, 5])

    def test_tools_worth_having_only_together(self):
        line = [tools(10, 10, 10), job(12, 3), job(12, 6), job(12, 5)]
        for alone in (1, 2, 4, 3, 5, 6):
            self.assertLess(last(*line, look(alone))[1], 0)
        self.assertEqual(last(*line, BEST), [6, 1, 7, 7])

    def test_least_and_greatest_differ(self):
        self.assertEqual(last(tools(5, 6), job(5, 1), job(9, 2), BEST), [3, 2, 2, 3])
        self.assertEqual(last(tools(5, 6), job(11, 3), BEST), [0, 2, 0, 3])

    def test_least_and_greatest_of_sets_that_are_neither(self):
        line = [tools(5, 6, 1), job(5, 1), job(6, 2), job(3, 4)]
        self.assertEqual(last(*line, BEST), [2, 4, 4, 7])

    def test_greatest_with_all_five_tools(self):
        line = [tools(200, 200, 200, 200, 200), job(1000, 31)]
        self.assertEqual(last(*line, BEST), [0, 2, 0, 31])
        self.assertEqual(last(*line, cost(5, 199), BEST), [1, 1, 31, 31])
        self.assertEqual(last(*line, cost(5, 201), BEST), [0, 1, 0, 0])

    def test_greatest_sums(self):
        jobs = [job(1000, 16), job(1000, 8), job(1000, 4), job(1000, 2), job(1000, 1)]
        self.assertEqual(last(tools(0, 0, 0, 0, 0), *jobs, BEST), [5000, 1, 31, 31])

    def test_a_job_that_pays_nothing(self):
        self.assertEqual(last(tools(0, 1), job(0, 1), job(0, 2), BEST), [0, 2, 0, 1])

    def test_follows_each_change(self):
        told = asked(tools(4, 4), job(5, 1), BEST, pay(1, 4), BEST, cost(1, 3), BEST, gone(1), BEST)
        self.assertEqual(told[2::2], [[1, 1, 1, 1], [0, 2, 0, 1], [1, 1, 1, 1], [0, 1, 0, 0]])

    def test_changes_nothing(self):
        self.assertEqual(asked(tools(4, 4), job(9, 3), BEST, BEST, look(3), job(1, 1)),
                         [[2], [1], [1, 1, 3, 3], [1, 1, 3, 3], [0, 1, 8, 1, 1], [2]])


class Look(unittest.TestCase):
    def test_at_the_beginning(self):
        self.assertEqual(asked(look(0), look(1)), [[0, 0, 0, 0], [0, 0, 0, 0]])

    def test_the_set_0(self):
        self.assertEqual(last(tools(5, 6), job(7, 1), look(0)), [0, 0, 0, 0])

    def test_what_it_leaves_costs_and_does(self):
        line = [tools(1, 10, 100), job(500, 1), job(50, 4), job(7, 3), job(3, 7)]
        self.assertEqual(last(*line, look(3)), [0, 496, 11, 2, 1, 3])
        self.assertEqual(last(*line, look(5)), [0, 449, 101, 2, 1, 2])
        self.assertEqual(last(*line, look(7)), [0, 449, 111, 4, 1, 2, 3, 4])

    def test_leaves_less_than_0(self):
        self.assertEqual(last(tools(5, 6), job(7, 3), look(3)), [0, -4, 11, 1, 1])
        self.assertEqual(last(tools(*[1000] * 5), look(31)), [0, -5000, 5000, 0])

    def test_a_job_is_done_only_with_all_it_needs(self):
        self.assertEqual(last(tools(0, 0, 0), job(9, 7), look(6)), [0, 0, 0, 0])
        self.assertEqual(last(tools(0, 0, 0), job(9, 6), look(7)), [0, 9, 0, 1, 1])

    def test_jobs_in_order_with_one_gone(self):
        line = [job(1, 1), job(2, 1), job(3, 1), gone(1), job(4, 1), pay(2, 5)]
        self.assertEqual(last(*line, look(1)), [0, 12, 0, 3, 2, 3, 4])

    def test_set_at_its_edges(self):
        for many in range(1, 6):
            told = tools(*[1] * many)
            highest = (1 << many) - 1
            self.assertEqual(last(told, look(0)), [0, 0, 0, 0])
            self.assertEqual(last(told, look(highest)), [0, -many, many, 0])
            for wrong in (highest + 1, highest + 2, TOP):
                self.assertEqual(last(told, look(wrong)), [-1], (many, wrong))

    def test_sets_are_those_of_the_tools_told_last(self):
        told = asked(tools(1, 1, 1), look(7), tools(1, 1), look(7), look(3), tools(), look(4))
        self.assertEqual(told[1::2], [[0, -3, 3, 0], [-1], [-1]])
        self.assertEqual(told[6], [-1])

    def test_refused_leaves_all_as_it_was(self):
        told = asked(tools(3, 4), job(10, 1), look(4), look(3), job(7, 2))
        self.assertEqual(told[2:], [[-1], [0, 3, 7, 1, 1], [2]])


class Jobs(unittest.TestCase):
    def test_none(self):
        self.assertEqual(last(JOBS), [0])
        self.assertEqual(last(tools(5, 6), JOBS), [0])

    def test_number_pay_and_needs_in_order(self):
        line = [tools(5, 6, 7), job(100, 7), job(0, 1), job(1000, 2)]
        self.assertEqual(last(*line, JOBS), [3, 1, 100, 7, 2, 0, 1, 3, 1000, 2])

    def test_five(self):
        line = [tools(*[1] * 5)] + [job(9 - place, 16 >> place) for place in range(5)]
        self.assertEqual(last(*line, job(1, 1), JOBS), [5, 1, 9, 16, 2, 8, 8, 3, 7, 4, 4, 6, 2, 5, 5, 1])

    def test_behind_gone(self):
        line = [tools(5, 6), job(10, 1), job(20, 2), job(30, 3)]
        self.assertEqual(last(*line, gone(2), JOBS), [2, 1, 10, 1, 3, 30, 3])
        self.assertEqual(last(*line, gone(1), job(40, 1), JOBS), [3, 2, 20, 2, 3, 30, 3, 4, 40, 1])
        self.assertEqual(last(*line, gone(3), gone(1), gone(2), JOBS), [0])

    def test_behind_pay(self):
        line = [tools(5, 6), job(10, 1), job(20, 2)]
        self.assertEqual(last(*line, pay(1, 99), JOBS), [2, 1, 99, 1, 2, 20, 2])
        self.assertEqual(last(*line, pay(2, 0), pay(2, 1001), JOBS), [2, 1, 10, 1, 2, 0, 2])

    def test_behind_tools_and_cost(self):
        self.assertEqual(last(tools(5, 6), job(10, 3), cost(1, 9), JOBS), [1, 1, 10, 3])
        self.assertEqual(last(tools(5, 6), job(10, 3), tools(), JOBS), [1, 1, 10, 3])
        self.assertEqual(last(tools(5, 6), job(10, 3), tools(5, 6), JOBS), [0])

    def test_changes_nothing(self):
        self.assertEqual(asked(job(3, 1), JOBS, JOBS, job(4, 1), JOBS),
                         [[1], [1, 1, 3, 1], [1, 1, 3, 1], [2], [2, 1, 3, 1, 2, 4, 1]])


if __name__ == "__main__":
    unittest.main()
