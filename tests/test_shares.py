"""The call shares (promise 2: its refusal)."""

import itertools
import random
import unittest
from fractions import Fraction

from tests.lines import JOBS, TOP, AllAsItWas, asked, cost, gone, job, last, look, pay, shares, tools

THREE = [tools(10, 10, 10), job(12, 3), job(12, 6), job(12, 5)]


def cost_together(costs, needs):
    return sum(price for place, price in enumerate(costs) if any(one >> place & 1 for one in needs))


class Shares(unittest.TestCase, AllAsItWas):
    def test_at_the_beginning(self):
        self.assertEqual(asked(shares(0), shares(1), shares(2)), [[0], [0], [-1]])

    def test_the_set_0(self):
        self.assertEqual(last(*THREE, shares(0)), [0])

    def test_no_job_is_done(self):
        self.assertEqual(last(tools(5, 6), job(9, 3), shares(1)), [0])
        self.assertEqual(last(tools(5, 6), shares(3)), [0])

    def test_one_job(self):
        self.assertEqual(last(tools(5, 6), job(9, 3), shares(3)), [1, 1, 11, 1])
        self.assertEqual(last(*THREE, shares(6)), [1, 2, 20, 1])

    def test_jobs_that_need_the_same(self):
        self.assertEqual(last(tools(5, 6), *[job(9, 3)] * 2, shares(3)), [2, 1, 11, 2, 2, 11, 2])
        self.assertEqual(last(tools(5, 6), *[job(9, 3)] * 3, shares(3)), [3, 1, 11, 3, 2, 11, 3, 3, 11, 3])

    def test_jobs_that_share_some_and_pay_the_same(self):
        self.assertEqual(last(*THREE, shares(7)), [3, 1, 10, 1, 2, 10, 1, 3, 10, 1])
        self.assertEqual(last(tools(6, 2, 4), job(1, 3), job(1, 5), shares(7)), [2, 1, 6, 1, 2, 6, 1])

    def test_jobs_that_share_some_and_pay_differently(self):
        self.assertEqual(last(tools(2, 2, 10), job(1, 3), job(1, 5), shares(7)), [2, 1, 4, 1, 2, 10, 1])
        self.assertEqual(last(tools(2, 2, 10), job(1, 5), job(1, 3), shares(7)), [2, 1, 10, 1, 2, 4, 1])

    def test_a_dear_job_that_still_lightens_the_others(self):
        line = [tools(6, 1), job(1, 1), job(1, 1), job(1, 3)]
        self.assertEqual(last(*line, shares(3)), [3, 1, 7, 3, 2, 7, 3, 3, 7, 3])
        self.assertEqual(last(*line, cost(2, 3), shares(3)), [3, 1, 3, 1, 2, 3, 1, 3, 3, 1])
        self.assertEqual(last(*line, cost(2, 4), shares(3)), [3, 1, 3, 1, 2, 3, 1, 3, 4, 1])

    def test_jobs_that_share_none(self):
        self.assertEqual(last(tools(3, 9), job(1, 1), job(1, 2), shares(3)), [2, 1, 3, 1, 2, 9, 1])
        self.assertEqual(last(tools(5, 5), job(1, 1), job(1, 2), shares(3)), [2, 1, 5, 1, 2, 5, 1])
        self.assertEqual(last(tools(4, 8, 4), job(1, 1), job(1, 2), job(1, 4), shares(7)),
                         [3, 1, 4, 1, 2, 8, 1, 3, 4, 1])

    def test_two_and_two(self):
        line = [tools(7, 4, 9, 0), job(5, 1), job(8, 3), job(3, 12), job(20, 4)]
        self.assertEqual(last(*line, shares(15)), [4, 1, 11, 2, 2, 11, 2, 3, 9, 2, 4, 9, 2])

    def test_one_behind_another(self):
        line = [tools(1, 5, 20), job(1, 1), job(1, 3), job(1, 7)]
        self.assertEqual(last(*line, shares(7)), [3, 1, 1, 1, 2, 5, 1, 3, 20, 1])

    def test_five_behind_one_another_in_the_order_of_their_numbers(self):
        line = [tools(1, 2, 3, 4, 5)] + [job(1, 1 << place) for place in (4, 2, 3, 0, 1)]
        self.assertEqual(last(*line, shares(31)), [5, 1, 5, 1, 2, 3, 1, 3, 4, 1, 4, 1, 1, 5, 2, 1])

    def test_tools_that_others_pay_already_cost_nothing_any_more(self):
        # Jobs 1 and 2 pay tool 1, 2 each; then job 3 has tool 2 to pay, and then job 4 tool 3.
        line = [tools(4, 3, 4), job(1, 1), job(1, 1), job(1, 3), job(1, 7)]
        self.assertEqual(last(*line, shares(7)), [4, 1, 2, 1, 2, 2, 1, 3, 3, 1, 4, 4, 1])

    def test_tools_that_cost_nothing(self):
        self.assertEqual(last(tools(0, 0), job(1, 1), job(1, 3), shares(3)), [2, 1, 0, 1, 2, 0, 1])
        self.assertEqual(last(tools(0, 6), job(1, 1), job(1, 3), shares(3)), [2, 1, 0, 1, 2, 6, 1])
        self.assertEqual(last(tools(0, 6), job(1, 1), job(1, 3), job(1, 1), job(1, 2), shares(3)),
                         [4, 1, 0, 1, 2, 3, 1, 3, 0, 1, 4, 3, 1])

    def test_in_lowest_terms(self):
        self.assertEqual(last(tools(6), *[job(1, 1)] * 4, shares(1)), [4, 1, 3, 2, 2, 3, 2, 3, 3, 2, 4, 3, 2])
        self.assertEqual(last(tools(4), *[job(1, 1)] * 4, shares(1)), [4, 1, 1, 1, 2, 1, 1, 3, 1, 1, 4, 1, 1])

    def test_greatest(self):
        self.assertEqual(last(tools(*[1000] * 5), job(0, 31), shares(31)), [1, 1, 5000, 1])
        self.assertEqual(last(tools(*[999] * 5), *[job(0, 31)] * 4, shares(31))[:4], [4, 1, 4995, 4])

    def test_tools_that_none_of_the_jobs_needs_are_not_paid(self):
        self.assertEqual(last(tools(5, 100), job(9, 1), shares(3)), [1, 1, 5, 1])

    def test_jobs_that_are_not_done_pay_nothing(self):
        line = [tools(4, 6), job(9, 1), job(9, 3)]
        self.assertEqual(asked(*line, shares(1), shares(2), shares(3))[3:], [[1, 1, 4, 1], [0], [2, 1, 4, 1, 2, 6, 1]])

    def test_what_jobs_pay_does_not_matter(self):
        for price in (0, 1, 1000):
            self.assertEqual(last(*THREE, pay(2, price), shares(7)), last(*THREE, shares(7)))

    def test_behind_gone_and_new_jobs(self):
        line = THREE + [gone(1), job(5, 2)]
        self.assertEqual(last(*line, shares(7)), [3, 2, 10, 1, 3, 10, 1, 4, 10, 1])
        self.assertEqual(last(*line, gone(2), shares(7)), [2, 3, 20, 1, 4, 10, 1])

    def test_set_at_its_edges(self):
        for many in range(1, 6):
            line = [tools(*[1] * many), job(1, 1)]
            highest = (1 << many) - 1
            self.assertEqual(last(*line, shares(0)), [0])
            self.assertEqual(last(*line, shares(highest)), [1, 1, 1, 1])
            for wrong in (highest + 1, highest + 2, TOP):
                self.assertEqual(last(*line, shares(wrong)), [-1])

    def test_changes_nothing(self):
        told = asked(tools(5, 6), job(9, 1), job(9, 3), shares(3), JOBS, look(3), shares(3))
        self.assertEqual(told[3:], [[2, 1, 5, 1, 2, 6, 1], [2, 1, 9, 1, 2, 9, 3], [0, 7, 11, 2, 1, 2],
                                    [2, 1, 5, 1, 2, 6, 1]])

    def test_refused_leaves_all_as_it_was(self):
        for wrong in (shares(8), shares(9), shares(TOP)):
            self.check_refused(THREE, 3, wrong, -1)


class AsTold(unittest.TestCase):
    """What the words ask of the shares, whichever way they are made."""

    def test_many_shops(self):
        source = random.Random(12)
        for unused in range(400):
            many = source.randint(1, 5)
            high = source.choice((1, 4, 12, 1000))
            costs = [source.randint(0, high) for unused in range(many)]
            needs = [source.randint(1, (1 << many) - 1) for unused in range(source.randint(1, 5))]
            told = last(tools(*costs), *[job(1, one) for one in needs], shares((1 << many) - 1))
            self.assertEqual(told[0], len(needs))
            self.assertEqual(told[1::3], list(range(1, len(needs) + 1)))
            paid = [Fraction(*told[place:place + 2]) for place in range(2, len(told), 3)]
            self.check_lowest_terms(paid, told)
            self.check_paid(costs, needs, paid)
            self.check_least_squares(costs, needs, paid)

    def check_lowest_terms(self, paid, told):
        self.assertEqual([one.numerator for one in paid], told[2::3])
        self.assertEqual([one.denominator for one in paid], told[3::3])

    def check_paid(self, costs, needs, paid):
        self.assertEqual(sum(paid), cost_together(costs, needs))
        for many in range(1, len(needs) + 1):
            for some in itertools.combinations(range(len(needs)), many):
                together = cost_together(costs, [needs[one] for one in some])
                self.assertLessEqual(sum(paid[one] for one in some), together, (costs, needs))

    def check_least_squares(self, costs, needs, paid):
        # The corners of all that could be shared are those where jobs come one by one, in some order, and each pays
        # what the tools cost that none before it needs. Squares are least where no way to a corner makes them less.
        squares = sum(one * one for one in paid)
        for order in itertools.permutations(range(len(needs))):
            there = []
            product = 0
            for one in order:
                before = cost_together(costs, there)
                there.append(needs[one])
                product += paid[one] * (cost_together(costs, there) - before)
            self.assertGreaterEqual(product, squares, (costs, needs, order))


if __name__ == "__main__":
    unittest.main()
