"""The calls that change a shop. Each gives back the list of its answers."""

from jobtools.limits import HIGHEST_PRICE, JOBS_FULL, MOST_JOBS, MOST_TOOLS, NOT_TAKEN, NO_SUCH_JOB
from jobtools.toolsets import is_set, is_tool


def tell_tools(shop, costs):
    if len(costs) == 0 or len(costs) > MOST_TOOLS or max(costs) > HIGHEST_PRICE:
        return [NOT_TAKEN]
    # A copy, since a later call changes single costs.
    shop.costs = list(costs)
    shop.jobs = {}
    shop.last_number = 0
    return [len(costs)]


def add_job(shop, numbers):
    pays = numbers[0]
    needs = numbers[1]
    if pays > HIGHEST_PRICE or needs == 0 or not is_set(shop.costs, needs):
        return [NOT_TAKEN]
    if len(shop.jobs) >= MOST_JOBS:
        return [JOBS_FULL]
    shop.last_number = shop.last_number + 1
    shop.jobs[shop.last_number] = (pays, needs)
    return [shop.last_number]


def drop_job(shop, numbers):
    number = numbers[0]
    if number not in shop.jobs:
        return [NO_SUCH_JOB]
    shop.jobs.pop(number)
    return [len(shop.jobs)]


def set_pay(shop, numbers):
    number = numbers[0]
    pays = numbers[1]
    if pays > HIGHEST_PRICE:
        return [NOT_TAKEN]
    if number not in shop.jobs:
        return [NO_SUCH_JOB]
    shop.jobs[number] = (pays, shop.jobs[number][1])
    return [0]


def set_cost(shop, numbers):
    tool = numbers[0]
    cost = numbers[1]
    if not is_tool(shop.costs, tool) or cost > HIGHEST_PRICE:
        return [NOT_TAKEN]
    shop.costs[tool - 1] = cost
    return [0]


CHANGES = {0: tell_tools, 1: add_job, 2: drop_job, 3: set_pay, 4: set_cost}


def is_change(call):
    return call in CHANGES


def change(shop, call, numbers):
    return CHANGES[call](shop, numbers)
