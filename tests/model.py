"""A second way to answer, which follows the words: sets of tools are Python's sets, and what is asked is tried out."""

import bisect
import itertools
from fractions import Fraction

NAMES = ("tools", "job", "gone", "pay", "cost", "best", "look",
         "times", "steps", "lacks", "spare", "money", "shares", "jobs_told")


def as_number(chosen):
    return sum(2 ** (tool - 1) for tool in chosen)


def two_numbers(fraction):
    return [Fraction(fraction).numerator, Fraction(fraction).denominator]


def choices(things):
    return [some for many in range(len(things) + 1) for some in itertools.combinations(things, many)]


class Model:
    def __init__(self):
        self.costs = {1: 0}
        self.jobs = []
        self.ever = 0

    def all_sets(self):
        return [set(some) for some in choices(sorted(self.costs))]

    def find_set(self, number):
        found = [chosen for chosen in self.all_sets() if as_number(chosen) == number]
        return found[0] if found else None

    def find_job(self, number):
        found = [one for one in self.jobs if one["number"] == number]
        return found[0] if found else None

    def done(self, chosen):
        return [one for one in self.jobs if one["needs"] <= chosen]

    def cost_of(self, chosen):
        return sum(self.costs[tool] for tool in chosen)

    def paid(self, chosen):
        return sum(one["pays"] for one in self.done(chosen))

    def leaves(self, chosen):
        return self.paid(chosen) - self.cost_of(chosen)

    def worth_having(self):
        left = [(self.leaves(chosen), chosen) for chosen in self.all_sets()]
        most = max(much for much, chosen in left)
        return [chosen for much, chosen in left if much == most]

    def least_and_greatest(self, worth):
        least = set.intersection(*worth)
        greatest = set.union(*worth)
        assert least in worth and greatest in worth
        return [as_number(least), as_number(greatest)]

    def tools(self, many, *costs):
        if many not in (1, 2, 3, 4, 5) or any(price > 1000 for price in costs):
            return [-1]
        self.costs = {tool: price for tool, price in enumerate(costs, 1)}
        self.jobs = []
        self.ever = 0
        return [many]

    def job(self, pays, needs):
        if pays > 1000 or not self.find_set(needs):
            return [-1]
        if len(self.jobs) == 5:
            return [-5]
        self.ever += 1
        self.jobs.append({"number": self.ever, "pays": pays, "needs": self.find_set(needs)})
        return [self.ever]

    def gone(self, number):
        if self.find_job(number) is None:
            return [-2]
        self.jobs.remove(self.find_job(number))
        return [len(self.jobs)]

    def pay(self, number, price):
        if price > 1000:
            return [-1]
        if self.find_job(number) is None:
            return [-2]
        self.find_job(number)["pays"] = price
        return [0]

    def cost(self, tool, price):
        if tool not in self.costs or price > 1000:
            return [-1]
        self.costs[tool] = price
        return [0]

    def best(self):
        worth = self.worth_having()
        return [self.leaves(worth[0]), len(worth), *self.least_and_greatest(worth)]

    def look(self, number):
        chosen = self.find_set(number)
        if chosen is None:
            return [-1]
        numbers = sorted(one["number"] for one in self.done(chosen))
        return [0, self.leaves(chosen), self.cost_of(chosen), len(numbers), *numbers]

    def times(self, above, below):
        if below == 0 or above > 1000 or below > 1000:
            return [-1]
        told = dict(self.costs)
        self.costs = {tool: price * Fraction(above, below) for tool, price in told.items()}
        worth = self.worth_having()
        left = self.leaves(worth[0])
        self.costs = told
        return [*two_numbers(left), *self.least_and_greatest(worth)]

    def steps(self):
        lines = [(self.paid(chosen), self.cost_of(chosen), as_number(chosen)) for chosen in self.all_sets()]

        def least(factor):
            above, below = two_numbers(factor)
            left = [(paid * below - costs * above, number) for paid, costs, number in lines]
            most = max(left)[0]
            common = -1
            for much, number in left:
                common = common & number if much == most else common
            return common

        # Which sets leave most can change only where two of them leave as much.
        meet = {Fraction(paid - other_paid, costs - other_costs)
                for paid, costs, number in lines for other_paid, other_costs, other in lines
                if costs > other_costs and paid > other_paid}
        now = least(0)
        told = [now, 0]
        before = Fraction(0)
        for factor in sorted(meet):
            assert least((before + factor) / 2) == now
            before = factor
            if least(factor) != now:
                now = least(factor)
                told[1] += 1
                told.extend([*two_numbers(factor), now])
        assert least(before + 1) == now
        return told

    def lacks(self, number):
        wanted = self.find_job(number)
        if wanted is None:
            return [-2]
        pays = wanted["pays"]

        def is_done(more):
            wanted["pays"] = pays + more
            return any(wanted["needs"] <= chosen for chosen in self.worth_having())

        found = bisect.bisect_left(range(10001), True, key=is_done)
        wanted["pays"] = pays
        return [found]

    def spare(self, tool):
        if tool not in self.costs:
            return [-1]
        price = self.costs[tool]
        # From dear to cheap: the first with which some set worth having has the tool.
        tried = range(10000, -10001, -1)

        def is_had(more):
            self.costs[tool] = price + more
            return any(tool in chosen for chosen in self.worth_having())

        found = tried[bisect.bisect_left(tried, True, key=is_had)]
        self.costs[tool] = price
        return [0, found]

    def money(self, much):
        had = [chosen for chosen in self.all_sets() if self.cost_of(chosen) <= much]
        left, lowest = min((-self.leaves(chosen), as_number(chosen)) for chosen in had)
        return [-left, lowest]

    def shares(self, number):
        chosen = self.find_set(number)
        if chosen is None:
            return [-1]
        done = sorted(self.done(chosen), key=lambda one: one["number"])
        told = [len(done)]
        for place, one in enumerate(done):
            told.extend([one["number"], *two_numbers(self.share(done, place))])
        return told

    def share(self, done, place):
        """A job's share without the others': whomever it joins, the most that these and it ask on top of some others.

        Of all choices that have the job it joins the one for which this most is least.
        """
        others = [other for other in range(len(done)) if other != place]
        price = {some: self.cost_of(set().union(*[done[one]["needs"] for one in some]))
                 for some in choices(range(len(done)))}
        return min(max(Fraction(price[tuple(sorted((*joined, place)))] - price[before], len(joined) + 1 - len(before))
                       for before in choices(joined))
                   for joined in choices(others))

    def jobs_told(self):
        told = [len(self.jobs)]
        for one in sorted(self.jobs, key=lambda one: one["number"]):
            told.extend([one["number"], one["pays"], as_number(one["needs"])])
        return told

    def answer(self, call):
        return getattr(self, NAMES[call[0]])(*call[1:])
