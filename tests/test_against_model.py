"""Many lines with all fourteen calls, answered again by the model."""

import itertools
import random
import unittest

from jobtools.shop import answers
from tests.lines import (BEST, JOBS, STEPS, TOP, asked, cost, gone, job, joined, lacks, look, money, pay, shares, spare,
                         split, times, tools)
from tests.model import Model

# The calls that are never refused.
ALWAYS = (5, 8, 11, 13)


class Writer:
    """Writes one line, with numbers mostly as they may be, and often such that sets leave as much."""

    def __init__(self, source):
        self.source = source
        self.many = 1
        self.high = source.choice((1, 3, 10, 30, 1000))
        self.wrong = source.choice((0, 0.05, 0.3))

    def price(self):
        if self.source.random() < self.wrong:
            return self.source.choice((999, 1000, 1001, TOP))
        return self.source.randint(0, self.high)

    def one_of(self, low, high):
        if self.source.random() < self.wrong:
            return self.source.choice((low - 1, high + 1, TOP) if low > 0 else (high + 1, TOP))
        return self.source.randint(low, high)

    def tools(self):
        many = self.source.choice((1, 2, 3, 4, 5, 5)) if self.source.random() >= self.wrong else (
            self.source.choice((0, 5, 6, 10)))
        costs = [self.price() for unused in range(many)]
        if 1 <= many <= 5 and max(costs) <= 1000:
            self.many = many
        return tools(*costs)

    def job(self):
        return job(self.price(), self.one_of(1, 2 ** self.many - 1))

    def change(self):
        return self.source.choice((
            self.job,
            self.job,
            lambda: gone(self.one_of(1, 5)),
            lambda: pay(self.one_of(1, 5), self.price()),
            lambda: cost(self.one_of(1, self.many), self.price()),
        ))()

    def question(self):
        return self.source.choice((
            lambda: BEST,
            lambda: look(self.one_of(0, 2 ** self.many - 1)),
            lambda: times(self.one_of(0, 12), self.one_of(1, 12)),
            lambda: times(self.one_of(0, 1000), self.one_of(1, 1000)),
            lambda: STEPS,
            lambda: lacks(self.one_of(1, 5)),
            lambda: spare(self.one_of(1, self.many)),
            lambda: money(self.one_of(0, self.source.choice((1, 2, 5)) * self.high)),
            lambda: shares(self.one_of(0, 2 ** self.many - 1)),
            lambda: shares(2 ** self.many - 1),
            lambda: JOBS,
        ))()

    def line(self):
        calls = [self.tools()] if self.source.random() < 0.9 else []
        calls += [self.job() for unused in range(self.source.randint(0, 5))]
        for unused in range(self.source.randint(1, 40 - len(calls))):
            chance = self.source.random()
            calls.append(self.tools() if chance < 0.03 else self.change() if chance < 0.35 else self.question())
        return calls


class AgainstModel(unittest.TestCase):
    def test_many_lines(self):
        source = random.Random(20)
        answered = {}
        refused = {}
        for unused in range(800):
            calls = Writer(source).line()
            model = Model()
            modelled = [model.answer(call) for call in calls]
            self.check_line(joined(calls), modelled)
            for call, told in zip(calls, modelled):
                into = refused if told[0] < 0 else answered
                into[call[0]] = into.get(call[0], 0) + 1
        # So that the lines are known to reach each call, and each that can be refused both ways.
        for call in range(14):
            self.assertGreater(answered[call], 300, call)
            self.assertEqual(refused.get(call, 0) > 50, call not in ALWAYS, call)

    def check_line(self, calls, modelled):
        self.assertLessEqual(len(calls), 500)
        handed_in = list(calls)
        told = answers(handed_in)
        self.assertEqual(split(told), modelled, calls)
        self.assertEqual(handed_in, calls)
        self.assertEqual(answers(handed_in), told, calls)

    def test_all_small_shops(self):
        questions = [BEST, STEPS, lacks(1), lacks(2), spare(1), spare(2), times(1, 1), times(1, 2), times(2, 1)]
        questions += [call(number) for call in (look, shares, money) for number in range(4)]
        for costs in itertools.product(range(3), repeat=2):
            for first, second in itertools.product(itertools.product(range(3), range(1, 4)), repeat=2):
                calls = [tools(*costs), job(*first), job(*second), *questions]
                model = Model()
                self.assertEqual(asked(*calls), [model.answer(call) for call in calls], calls)


if __name__ == "__main__":
    unittest.main()
