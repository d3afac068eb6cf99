"""How jobs share what the tools cost that they need.

A share is a pair: the number above the line, the number below it.
"""

from jobtools.toolsets import cost_of, what_some_has


def all_choices(numbers):
    """Every choice of at least one of these jobs."""
    choices = []
    for chosen in range(1, 1 << len(numbers)):
        choices.append([number for place, number in enumerate(numbers) if chosen >> place & 1 == 1])
    return choices


def needed_by(jobs, numbers):
    return what_some_has([jobs[number][1] for number in numbers])


def share_in(costs, jobs, choice):
    """What each job of the choice would pay if they paid their tools alone, all the same."""
    return (cost_of(costs, needed_by(jobs, choice)), len(choice))


def is_less(share, other):
    return share[0] * other[1] < other[0] * share[1]


def least_share(costs, jobs, choices):
    least = share_in(costs, jobs, choices[0])
    for choice in choices:
        share = share_in(costs, jobs, choice)
        if is_less(share, least):
            least = share
    return least


def who_pay(costs, jobs, choices, least):
    """All jobs of all choices that come to the least share, as a dict of True."""
    payers = {}
    for choice in choices:
        if not is_less(least, share_in(costs, jobs, choice)):
            for number in choice:
                payers[number] = True
    return payers


def without_cost(costs, tools):
    """The costs when these tools cost nothing any more."""
    return [0 if tools >> place & 1 == 1 else cost for place, cost in enumerate(costs)]


def shares_of(costs, jobs, numbers):
    """The share of each of these jobs, by its number."""
    shares = {}
    unpaid = costs
    others = numbers
    while len(others) > 0:
        choices = all_choices(others)
        least = least_share(unpaid, jobs, choices)
        payers = who_pay(unpaid, jobs, choices, least)
        for number in payers:
            shares[number] = least
        unpaid = without_cost(unpaid, needed_by(jobs, payers))
        others = [number for number in others if number not in payers]
    return shares
