"""The calls tools, job, gone, pay and cost (promise 1)."""

import unittest

from tests.lines import BEST, TOP, asked, cost, gone, job, last, look, pay, tools

FIVE_JOBS = [job(10, 1), job(20, 2), job(30, 3), job(40, 1), job(50, 2)]


class Tools(unittest.TestCase):
    def test_answers_how_many(self):
        for many in range(1, 6):
            self.assertEqual(last(tools(*[7] * many)), [many])

    def test_costs_are_those_told_in_order(self):
        costs = [1, 20, 300, 1000, 5]
        for place, price in enumerate(costs):
            self.assertEqual(last(tools(*costs), look(1 << place)), [0, -price, price, 0])

    def test_number_of_tools_at_its_edges(self):
        self.assertEqual(last(tools()), [-1])
        self.assertEqual(last(tools(1)), [1])
        self.assertEqual(last(tools(1, 2, 3, 4, 5)), [5])
        self.assertEqual(last(tools(1, 2, 3, 4, 5, 6)), [-1])
        self.assertEqual(last(tools(*[0] * 10)), [-1])

    def test_cost_at_its_edges(self):
        self.assertEqual(last(tools(0)), [1])
        self.assertEqual(last(tools(1000, 1000)), [2])
        self.assertEqual(last(tools(1001)), [-1])
        self.assertEqual(last(tools(1001, 0)), [-1])
        self.assertEqual(last(tools(0, 0, 0, 0, 1001)), [-1])
        self.assertEqual(last(tools(0, TOP, 0)), [-1])

    def test_there_are_no_jobs_then(self):
        self.assertEqual(asked(job(9, 1), tools(0), look(1), gone(1)), [[1], [1], [0, 0, 0, 0], [-2]])

    def test_job_numbers_begin_anew(self):
        told = asked(tools(1), job(1, 1), job(2, 1), tools(3, 4), job(5, 3), job(6, 1))
        self.assertEqual(told, [[1], [1], [2], [2], [1], [2]])

    def test_refused_leaves_all_as_it_was(self):
        for wrong in (tools(), tools(1, 1, 1, 1, 1, 1), tools(1, 1001), tools(TOP)):
            told = asked(tools(3, 4), job(10, 1), wrong, look(3), job(1, 3), look(3))
            self.assertEqual(told, [[2], [1], [-1], [0, 3, 7, 1, 1], [2], [0, 4, 7, 2, 1, 2]])

    def test_refused_at_the_beginning_leaves_the_one_tool(self):
        self.assertEqual(asked(tools(), look(1), look(2)), [[-1], [0, 0, 0, 0], [-1]])

    def test_told_again_after_a_cost_was_changed(self):
        told = asked(tools(5, 6), cost(1, 9), tools(5, 6), look(1))
        self.assertEqual(told, [[2], [0], [2], [0, -5, 5, 0]])


class Job(unittest.TestCase):
    def test_answers_the_new_number(self):
        self.assertEqual(asked(tools(1, 2), *FIVE_JOBS), [[2], [1], [2], [3], [4], [5]])

    def test_at_the_beginning_there_is_one_tool_for_it(self):
        self.assertEqual(asked(job(3, 1), job(3, 2), look(1)), [[1], [-1], [0, 3, 0, 1, 1]])

    def test_pays_and_needs_what_was_told(self):
        told = asked(tools(1, 2, 4), job(100, 5), look(5), look(1), look(4), look(7))
        self.assertEqual(told[2:], [[0, 95, 5, 1, 1], [0, -1, 1, 0], [0, -4, 4, 0], [0, 93, 7, 1, 1]])

    def test_pay_at_its_edges(self):
        for pays in (0, 1, 999, 1000):
            self.assertEqual(asked(job(pays, 1), look(1)), [[1], [0, pays, 0, 1, 1]])
        for pays in (1001, 1002, TOP):
            self.assertEqual(last(job(pays, 1)), [-1])

    def test_set_at_its_edges(self):
        for many in range(1, 6):
            highest = (1 << many) - 1
            told = tools(*[1] * many)
            self.assertEqual(last(told, job(1, 1)), [1])
            self.assertEqual(last(told, job(1, highest)), [1])
            for wrong in (0, highest + 1, highest + 2, TOP):
                self.assertEqual(last(told, job(1, wrong)), [-1], (many, wrong))

    def test_the_fifth_and_the_sixth(self):
        self.assertEqual(asked(tools(1, 2), *FIVE_JOBS, job(1, 1))[5:], [[5], [-5]])

    def test_one_may_come_when_one_of_five_has_gone(self):
        told = asked(tools(1, 2), *FIVE_JOBS, gone(5), job(1, 1), job(1, 1))
        self.assertEqual(told[6:], [[4], [6], [-5]])

    def test_first_told_refusal_first(self):
        for wrong in (job(1001, 1), job(1, 0), job(1, 4), job(TOP, TOP)):
            self.assertEqual(last(tools(1, 2), *FIVE_JOBS, wrong), [-1])

    def test_refused_leaves_all_as_it_was(self):
        for wrong in (job(1001, 1), job(1, 0), job(1, 4)):
            told = asked(tools(3, 4), job(10, 1), wrong, look(3), job(7, 2), look(3))
            self.assertEqual(told, [[2], [1], [-1], [0, 3, 7, 1, 1], [2], [0, 10, 7, 2, 1, 2]])

    def test_refused_as_sixth_uses_up_no_number(self):
        told = asked(tools(1, 2), *FIVE_JOBS, job(9, 3), look(3), gone(1), job(9, 3))
        self.assertEqual(told[6:], [[-5], [0, 147, 3, 5, 1, 2, 3, 4, 5], [4], [6]])


class Gone(unittest.TestCase):
    def test_answers_how_many_there_are_then(self):
        told = asked(tools(1, 2), *FIVE_JOBS, gone(3), gone(1), gone(5), gone(2), gone(4))
        self.assertEqual(told[6:], [[4], [3], [2], [1], [0]])

    def test_only_this_job_goes(self):
        told = asked(tools(1, 2), *FIVE_JOBS, gone(3), look(3))
        self.assertEqual(told[6:], [[4], [0, 117, 3, 4, 1, 2, 4, 5]])

    def test_no_such_job(self):
        for wrong in (0, 3, 4, TOP):
            self.assertEqual(last(job(1, 1), job(1, 1), gone(wrong)), [-2])
        self.assertEqual(last(gone(1)), [-2])

    def test_a_job_that_has_gone(self):
        self.assertEqual(asked(job(1, 1), job(1, 1), gone(1), gone(1)), [[1], [2], [1], [-2]])

    def test_number_is_not_given_again(self):
        told = asked(job(1, 1), job(2, 1), gone(2), job(3, 1), gone(1), gone(3), job(4, 1))
        self.assertEqual(told, [[1], [2], [1], [3], [1], [0], [4]])

    def test_refused_leaves_all_as_it_was(self):
        told = asked(tools(3, 4), job(10, 1), gone(2), look(3), job(7, 2))
        self.assertEqual(told, [[2], [1], [-2], [0, 3, 7, 1, 1], [2]])


class Pay(unittest.TestCase):
    def test_this_job_pays_so_much(self):
        told = asked(tools(1, 2), job(10, 1), job(20, 2), pay(1, 500), look(1), look(2))
        self.assertEqual(told[3:], [[0], [0, 499, 1, 1, 1], [0, 18, 2, 1, 2]])

    def test_what_it_needs_stays(self):
        told = asked(tools(1, 2), job(10, 3), pay(1, 30), look(1), look(2), look(3))
        self.assertEqual(told[2:], [[0], [0, -1, 1, 0], [0, -2, 2, 0], [0, 27, 3, 1, 1]])

    def test_order_of_jobs_stays(self):
        told = asked(job(1, 1), job(2, 1), job(3, 1), pay(1, 9), look(1))
        self.assertEqual(told[3:], [[0], [0, 14, 0, 3, 1, 2, 3]])

    def test_price_at_its_edges(self):
        for price in (0, 999, 1000):
            self.assertEqual(asked(job(5, 1), pay(1, price), look(1))[1:], [[0], [0, price, 0, 1, 1]])
        for price in (1001, TOP):
            self.assertEqual(last(job(5, 1), pay(1, price)), [-1])

    def test_no_such_job(self):
        for wrong in (0, 2, TOP):
            self.assertEqual(last(job(5, 1), pay(wrong, 1000)), [-2])
        self.assertEqual(last(job(5, 1), gone(1), pay(1, 3)), [-2])

    def test_first_told_refusal_first(self):
        for wrong in (pay(2, 1001), pay(0, TOP), pay(TOP, TOP)):
            self.assertEqual(last(job(5, 1), wrong), [-1])

    def test_refused_leaves_all_as_it_was(self):
        for wrong, refusal in ((pay(1, 1001), -1), (pay(2, 7), -2), (pay(2, 1001), -1)):
            told = asked(tools(3, 4), job(10, 1), wrong, look(3), job(7, 2))
            self.assertEqual(told, [[2], [1], [refusal], [0, 3, 7, 1, 1], [2]])


class Cost(unittest.TestCase):
    def test_this_tool_costs_so_much(self):
        told = asked(tools(1, 2, 3), cost(2, 70), look(1), look(2), look(4))
        self.assertEqual(told[1:], [[0], [0, -1, 1, 0], [0, -70, 70, 0], [0, -3, 3, 0]])

    def test_jobs_stay(self):
        told = asked(tools(1, 2), job(10, 1), cost(1, 4), look(1), job(3, 3))
        self.assertEqual(told[2:], [[0], [0, 6, 4, 1, 1], [2]])

    def test_at_the_beginning_there_is_one_tool(self):
        self.assertEqual(asked(cost(1, 6), look(1), cost(2, 6)), [[0], [0, -6, 6, 0], [-1]])

    def test_tool_at_its_edges(self):
        for many in range(1, 6):
            told = tools(*[1] * many)
            self.assertEqual(last(told, cost(1, 5)), [0])
            self.assertEqual(last(told, cost(many, 5)), [0])
            for wrong in (0, many + 1, TOP):
                self.assertEqual(last(told, cost(wrong, 5)), [-1])

    def test_price_at_its_edges(self):
        for price in (0, 999, 1000):
            self.assertEqual(asked(cost(1, price), look(1)), [[0], [0, -price, price, 0]])
        for price in (1001, TOP):
            self.assertEqual(last(cost(1, price)), [-1])

    def test_refused_leaves_all_as_it_was(self):
        for wrong in (cost(0, 9), cost(3, 9), cost(2, 1001), cost(0, TOP)):
            told = asked(tools(3, 4), job(10, 1), wrong, look(1), look(2), BEST, job(7, 2))
            self.assertEqual(told[2:], [[-1], [0, 7, 3, 1, 1], [0, -4, 4, 0], [7, 1, 1, 1], [2]])


if __name__ == "__main__":
    unittest.main()
