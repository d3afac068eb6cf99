"""Many lines, answered again by a second way that follows the words: sets of tools are Python's sets."""

import itertools
import random
import unittest

from tests.lines import BEST, TOP, asked, cost, gone, job, look, pay, tools


def as_number(chosen):
    return sum(2 ** (tool - 1) for tool in chosen)


class Model:
    def __init__(self):
        self.costs = {1: 0}
        self.jobs = []
        self.ever = 0

    def all_sets(self):
        names = sorted(self.costs)
        return [set(some) for many in range(len(names) + 1) for some in itertools.combinations(names, many)]

    def find_set(self, number):
        found = [chosen for chosen in self.all_sets() if as_number(chosen) == number]
        return found[0] if found else None

    def find_job(self, number):
        found = [one for one in self.jobs if one["number"] == number]
        return found[0] if found else None

    def done(self, chosen):
        return [one for one in self.jobs if one["needs"] <= chosen]

    def leaves(self, chosen):
        return sum(one["pays"] for one in self.done(chosen)) - sum(self.costs[tool] for tool in chosen)

    def tools(self, many, *costs):
        if many not in (1, 2, 3, 4, 5) or any(price > 1000 for price in costs):
            return [-1]
        self.costs = {tool: price for tool, price in enumerate(costs, 1)}
        self.jobs = []
        self.ever = 0
        return [many]

    def job(self, pays, needs):
        if pays > 1000 or not self.find_set(needs):
            return [-1]
        if len(self.jobs) == 5:
            return [-5]
        self.ever += 1
        self.jobs.append({"number": self.ever, "pays": pays, "needs": self.find_set(needs)})
        return [self.ever]

    def gone(self, number):
        if self.find_job(number) is None:
            return [-2]
        self.jobs.remove(self.find_job(number))
        return [len(self.jobs)]

    def pay(self, number, price):
        if price > 1000:
            return [-1]
        if self.find_job(number) is None:
            return [-2]
        self.find_job(number)["pays"] = price
        return [0]

    def cost(self, tool, price):
        if tool not in self.costs or price > 1000:
            return [-1]
        self.costs[tool] = price
        return [0]

    def best(self):
        most = max(self.leaves(chosen) for chosen in self.all_sets())
        worth = [chosen for chosen in self.all_sets() if self.leaves(chosen) == most]
        least = set.intersection(*worth)
        greatest = set.union(*worth)
        assert least in worth and greatest in worth
        return [most, len(worth), as_number(least), as_number(greatest)]

    def look(self, number):
        chosen = self.find_set(number)
        if chosen is None:
            return [-1]
        numbers = sorted(one["number"] for one in self.done(chosen))
        return [0, self.leaves(chosen), sum(self.costs[tool] for tool in chosen), len(numbers), *numbers]

    def answer(self, call):
        names = ("tools", "job", "gone", "pay", "cost", "best", "look")
        return getattr(self, names[call[0]])(*call[1:])


def any_price(source, low):
    return source.choice((source.randint(0, low), source.randint(0, low), source.randint(0, 1000), 1000, 1001, TOP))


def small_price(source, low):
    return source.randint(0, low)


def any_call(source, price, low):
    return source.choice((
        lambda: job(price(source, low), source.randint(0, 33)),
        lambda: job(price(source, low), source.randint(1, 7)),
        lambda: job(price(source, low), source.randint(1, 31)),
        lambda: gone(source.randint(0, 7)),
        lambda: pay(source.randint(0, 7), price(source, low)),
        lambda: cost(source.randint(0, 6), price(source, low)),
        lambda: BEST,
        lambda: BEST,
        lambda: look(source.choice((source.randint(0, 32), source.randint(0, 7), TOP))),
    ))()


def any_line(source):
    price = source.choice((any_price, small_price))
    low = source.choice((1, 3, 10, 1000))
    calls = []
    for step in range(source.randint(1, 40)):
        if source.random() < (0.5 if step == 0 else 0.04):
            calls.append(tools(*[small_price(source, low) for unused in range(source.randint(0, 6))]))
        else:
            calls.append(any_call(source, price, low))
    return calls


class AgainstModel(unittest.TestCase):
    def test_many_lines(self):
        source = random.Random(20)
        for unused in range(600):
            calls = any_line(source)
            model = Model()
            self.assertEqual(asked(*calls), [model.answer(call) for call in calls], calls)


if __name__ == "__main__":
    unittest.main()
