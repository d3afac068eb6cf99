"""The calls lacks, spare and money (promise 2: the refusals of lacks and spare)."""

import random
import unittest

from tests.lines import (BEST, JOBS, TOP, AllAsItWas, asked, cost, gone, job, lacks, last, look, money, pay, spare,
                         tools)

THREE = [tools(10, 10, 10), job(12, 3), job(12, 6), job(12, 5)]


def some_shop(source):
    many = source.randint(1, 5)
    line = [tools(*[source.randint(0, 20) for unused in range(many)])]
    for unused in range(source.randint(1, 5)):
        line.append(job(source.randint(0, 20), source.randint(1, (1 << many) - 1)))
    return line


class Lacks(unittest.TestCase, AllAsItWas):
    def test_done_with_the_only_set_worth_having(self):
        for number in (1, 2, 3):
            self.assertEqual(last(*THREE, lacks(number)), [0])

    def test_done_with_the_greatest_but_not_with_the_least(self):
        self.assertEqual(asked(tools(5), job(5, 1), BEST, lacks(1))[2:], [[0, 2, 0, 1], [0]])
        line = [tools(5, 6), job(11, 3), job(0, 1)]
        self.assertEqual(asked(*line, BEST, lacks(1), lacks(2))[3:], [[0, 2, 0, 3], [0], [0]])

    def test_done_with_one_that_is_neither_the_least_nor_all(self):
        line = [tools(5, 6, 1), job(5, 1), job(6, 2), job(3, 4)]
        self.assertEqual(asked(*line, BEST, lacks(1), lacks(2), lacks(3))[4:], [[2, 4, 4, 7], [0], [0], [0]])

    def test_done_with_none(self):
        self.assertEqual(last(tools(5, 6), job(3, 1), lacks(1)), [2])
        self.assertEqual(last(tools(5, 6), job(3, 3), lacks(1)), [8])
        self.assertEqual(last(tools(5, 6), job(9, 2), job(1, 3), lacks(2)), [4])

    def test_one_less_and_just_enough(self):
        told = asked(tools(5), job(4, 1), lacks(1), pay(1, 5), lacks(1), pay(1, 6), lacks(1))
        self.assertEqual(told[2::2], [[1], [0], [0]])

    def test_tools_that_serve_others_too(self):
        line = [tools(10, 4), job(7, 1)]
        self.assertEqual(asked(*line, job(9, 3), lacks(1), lacks(2))[3:], [[0], [0]])
        # Both are lacking 2, since with both tools both are done, for 12.
        self.assertEqual(asked(*line, job(5, 3), lacks(1), lacks(2))[3:], [[2], [2]])
        # Job 1 is better done by itself here; job 2 is never done without job 1.
        self.assertEqual(asked(*line, job(1, 3), lacks(1), lacks(2))[3:], [[3], [6]])

    def test_jobs_that_need_the_same(self):
        self.assertEqual(asked(tools(6, 6), job(4, 3), job(4, 3), lacks(1), lacks(2))[3:], [[4], [4]])

    def test_more_than_a_job_may_pay(self):
        self.assertEqual(last(tools(*[1000] * 5), job(0, 31), lacks(1)), [5000])

    def test_a_job_that_pays_nothing(self):
        self.assertEqual(last(tools(0), job(0, 1), lacks(1)), [0])
        self.assertEqual(last(tools(7), job(0, 1), lacks(1)), [7])

    def test_paid_so_much_more_some_set_does_it_and_with_one_less_none(self):
        source = random.Random(9)
        for unused in range(200):
            line = some_shop(source)
            number = source.randint(1, len(line) - 1)
            pays, needs = line[number][1:]
            more = last(*line, lacks(number))[0]
            self.assertEqual(last(*line, pay(number, pays + more), BEST)[3] & needs, needs, line)
            if more > 0:
                self.assertNotEqual(last(*line, pay(number, pays + more - 1), BEST)[3] & needs, needs, line)

    def test_no_such_job(self):
        self.assertEqual(last(lacks(1)), [-2])
        for wrong in (0, 4, 5, TOP):
            self.assertEqual(last(*THREE, lacks(wrong)), [-2])

    def test_a_job_that_has_gone(self):
        told = asked(*THREE, gone(2), lacks(1), lacks(2), lacks(3), job(1, 1), lacks(2), lacks(4))
        self.assertEqual(told[5:], [[6], [-2], [6], [4], [-2], [5]])
        self.assertEqual(last(*THREE, tools(1, 1), lacks(1)), [-2])

    def test_changes_nothing(self):
        told = asked(tools(5, 6), job(3, 1), lacks(1), JOBS, BEST, lacks(1))
        self.assertEqual(told[2:], [[2], [1, 1, 3, 1], [0, 1, 0, 0], [2]])

    def test_refused_leaves_all_as_it_was(self):
        for wrong in (lacks(0), lacks(2), lacks(4), lacks(TOP)):
            self.check_refused(THREE + [gone(2)], 3, wrong, -2)


class Spare(unittest.TestCase, AllAsItWas):
    def test_at_the_beginning(self):
        self.assertEqual(last(spare(1)), [0, 0])

    def test_above_0(self):
        self.assertEqual(last(tools(5, 6), job(9, 1), spare(1)), [0, 4])
        for tool in (1, 2, 3):
            self.assertEqual(last(*THREE, spare(tool)), [0, 6])

    def test_is_0(self):
        self.assertEqual(last(tools(9, 6), job(9, 1), spare(1)), [0, 0])
        self.assertEqual(last(tools(0, 6), job(9, 2), spare(1)), [0, 0])

    def test_below_0(self):
        self.assertEqual(last(tools(10), job(9, 1), spare(1)), [0, -1])
        self.assertEqual(last(tools(6, 6), job(4, 3), job(4, 3), spare(2)), [0, -4])

    def test_a_tool_that_no_job_needs(self):
        self.assertEqual(last(tools(5, 6), job(9, 1), spare(2)), [0, -6])
        self.assertEqual(last(tools(5, 6), spare(2)), [0, -6])

    def test_for_nothing_a_tool_is_always_had(self):
        # The job would pay for tool 1 only if that cost 4 less than nothing; but alone it is had when it costs 0.
        self.assertEqual(last(tools(3, 9), job(5, 3), spare(1)), [0, -3])
        self.assertEqual(last(tools(0, 9), job(5, 3), spare(1)), [0, 0])

    def test_with_other_tools_that_would_not_be_had_without_it(self):
        # With tool 1 both tools are worth 18 less 11; without it tool 2 is given up too.
        self.assertEqual(last(tools(5, 6), job(3, 1), job(15, 3), spare(1)), [0, 7])
        # Without tool 1 tool 2 still leaves 2.
        self.assertEqual(last(tools(5, 6), job(3, 1), job(8, 3), job(8, 2), spare(1)), [0, 6])

    def test_greatest_and_lowest(self):
        self.assertEqual(last(tools(0), *[job(1000, 1)] * 5, spare(1)), [0, 5000])
        self.assertEqual(last(tools(*[1000] * 5), spare(5)), [0, -1000])

    def test_costing_so_much_more_some_set_has_it_and_with_one_more_none(self):
        source = random.Random(10)
        for unused in range(200):
            line = some_shop(source)
            tool = source.randint(1, line[0][1])
            costs = line[0][1 + tool]
            first, more = last(*line, spare(tool))
            self.assertEqual(first, 0)
            if costs + more >= 0:
                self.assertEqual(last(*line, cost(tool, costs + more), BEST)[3] >> (tool - 1) & 1, 1, line)
            if costs + more + 1 >= 0:
                self.assertEqual(last(*line, cost(tool, costs + more + 1), BEST)[3] >> (tool - 1) & 1, 0, line)

    def test_tool_at_its_edges(self):
        for many in range(1, 6):
            line = [tools(*[3] * many)]
            self.assertEqual(last(*line, spare(1)), [0, -3])
            self.assertEqual(last(*line, spare(many)), [0, -3])
            for wrong in (0, many + 1, many + 2, TOP):
                self.assertEqual(last(*line, spare(wrong)), [-1])

    def test_changes_nothing(self):
        told = asked(tools(5, 6), job(9, 1), spare(1), look(3), BEST, spare(1))
        self.assertEqual(told[2:], [[0, 4], [0, -2, 11, 1, 1], [4, 1, 1, 1], [0, 4]])

    def test_refused_leaves_all_as_it_was(self):
        for wrong in (spare(0), spare(4), spare(TOP)):
            self.check_refused(THREE, 3, wrong, -1)


class Money(unittest.TestCase):
    # The sets 0 to 7 cost 0, 4, 5, 9, 6, 10, 11, 15 and leave 0, 6, 7, 13, -6, 0, 21, 27.
    LINE = [tools(4, 5, 6), job(10, 1), job(12, 2), job(20, 6)]

    def test_at_the_beginning(self):
        self.assertEqual(asked(money(0), money(TOP)), [[0, 0], [0, 0]])

    def test_exactly_what_a_set_costs_and_one_less(self):
        for much, told in ((4, [6, 1]), (5, [7, 2]), (9, [13, 3]), (11, [21, 6]), (15, [27, 7])):
            self.assertEqual(last(*self.LINE, money(much)), told)
        for much, told in ((3, [0, 0]), (8, [7, 2]), (10, [13, 3]), (14, [21, 6]), (16, [27, 7])):
            self.assertEqual(last(*self.LINE, money(much)), told)

    def test_none(self):
        self.assertEqual(last(*self.LINE, money(0)), [0, 0])

    def test_none_with_tools_that_cost_nothing(self):
        line = [tools(0, 3), job(2, 1), job(9, 2)]
        self.assertEqual(asked(*line, money(0), money(2), money(3))[3:], [[2, 1], [2, 1], [8, 3]])

    def test_more_than_all_cost(self):
        for much in (1001, 5001, TOP):
            self.assertEqual(last(*self.LINE, money(much)), [27, 7])
        self.assertEqual(last(*THREE, money(TOP)), [6, 7])

    def test_all_five_tools(self):
        line = [tools(*[1000] * 5)] + [job(1000, 31)] * 4 + [job(1000, 15)]
        self.assertEqual(asked(*line, cost(5, 999), money(4998), money(4999))[7:], [[0, 0], [1, 31]])

    def test_several_leave_as_much(self):
        line = [tools(5, 5, 0), job(8, 1), job(8, 2)]
        self.assertEqual(asked(*line, money(5), money(9), money(10))[3:], [[3, 1], [3, 1], [6, 3]])

    def test_the_lowest_not_the_cheapest(self):
        line = [tools(6, 4), job(8, 1), job(6, 2)]
        self.assertEqual(asked(*line, money(5), money(6), money(9), money(10))[3:], [[2, 2], [2, 1], [2, 1], [4, 3]])

    def test_a_set_that_leaves_as_much_as_none(self):
        self.assertEqual(last(tools(5), job(5, 1), money(5)), [0, 0])

    def test_changes_nothing(self):
        told = asked(*self.LINE, money(5), JOBS, look(7), money(5))
        self.assertEqual(told[4:], [[7, 2], [3, 1, 10, 1, 2, 12, 2, 3, 20, 6], [0, 27, 15, 3, 1, 2, 3], [7, 2]])


if __name__ == "__main__":
    unittest.main()
