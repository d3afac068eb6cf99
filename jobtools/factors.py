"""What is worth having when all costs are so many times as great.

A factor is a pair: the number above the line, the number below it.
"""

from jobtools.toolsets import all_sets, cost_of, what_all_have
from jobtools.worth import paid_with, worth_having


# Costs are taken times the number above the line and pay times the one below it. So all stays whole, and what each
# set leaves is as many times as great as the number below: the sets keep their order.
def costs_at(costs, factor):
    return [cost * factor[0] for cost in costs]


def jobs_at(jobs, factor):
    raised = {}
    for number in jobs:
        raised[number] = (jobs[number][0] * factor[1], jobs[number][1])
    return raised


def least_at(costs, jobs, factor):
    return what_all_have(worth_having(costs_at(costs, factor), jobs_at(jobs, factor)))


def next_factor(costs, jobs, least):
    """The lowest factor at which some cheaper set leaves as much as this one, which costs something."""
    paid = paid_with(jobs, least)
    cost = cost_of(costs, least)
    # The set 0 is cheaper, and leaves 0 at every factor.
    lowest = (paid, cost)
    for tools in all_sets(costs):
        lost = paid - paid_with(jobs, tools)
        saved = cost - cost_of(costs, tools)
        if saved > 0 and lost * lowest[1] < lowest[0] * saved:
            lowest = (lost, saved)
    return lowest


def least_sets(costs, jobs):
    """Each least set worth having as the factor rises, as (the factor from which on it is, the set)."""
    factor = (0, 1)
    least = least_at(costs, jobs, factor)
    found = [(factor, least)]
    # What costs nothing costs nothing at any factor, so such a set is the last one.
    while cost_of(costs, least) > 0:
        factor = next_factor(costs, jobs, least)
        least = least_at(costs, jobs, factor)
        found.append((factor, least))
    return found
