"""The calls that only ask. Each gives back the list of its answers."""

from jobtools.factors import costs_at, jobs_at, least_sets
from jobtools.limits import HIGHEST_TERM, NOT_TAKEN, NO_SUCH_JOB
from jobtools.ratios import lowest_terms
from jobtools.sharing import shares_of
from jobtools.toolsets import all_sets, cost_of, has_all, is_set, is_tool, set_of_one, what_all_have, what_some_has
from jobtools.worth import best_of, done_with, left_by, most_left, worth_having


def tell_best(shop, numbers):
    sets = worth_having(shop.costs, shop.jobs)
    left = left_by(shop.costs, shop.jobs, sets[0])
    return [left, len(sets), what_all_have(sets), what_some_has(sets)]


def look_at(shop, numbers):
    tools = numbers[0]
    if not is_set(shop.costs, tools):
        return [NOT_TAKEN]
    done = done_with(shop.jobs, tools)
    left = left_by(shop.costs, shop.jobs, tools)
    return [0, left, cost_of(shop.costs, tools), len(done)] + done


def tell_times(shop, numbers):
    above = numbers[0]
    below = numbers[1]
    if below == 0 or above > HIGHEST_TERM or below > HIGHEST_TERM:
        return [NOT_TAKEN]
    costs = costs_at(shop.costs, (above, below))
    jobs = jobs_at(shop.jobs, (above, below))
    sets = worth_having(costs, jobs)
    left = left_by(costs, jobs, sets[0])
    return lowest_terms(left, below) + [what_all_have(sets), what_some_has(sets)]


def tell_steps(shop, numbers):
    found = least_sets(shop.costs, shop.jobs)
    # The first is the one at the factor 0, which is no step.
    told = [found[0][1], len(found) - 1]
    for factor, least in found[1:]:
        told.extend(lowest_terms(factor[0], factor[1]))
        told.append(least)
    return told


def tell_lacks(shop, numbers):
    number = numbers[0]
    if number not in shop.jobs:
        return [NO_SUCH_JOB]
    sets = all_sets(shop.costs)
    doing = [tools for tools in sets if has_all(tools, shop.jobs[number][1])]
    # Each of these would leave more by what the job paid more, and no other set would.
    return [most_left(shop.costs, shop.jobs, sets) - most_left(shop.costs, shop.jobs, doing)]


def tell_spare(shop, numbers):
    tool = numbers[0]
    if not is_tool(shop.costs, tool):
        return [NOT_TAKEN]
    alone = set_of_one(tool)
    having = [tools for tools in all_sets(shop.costs) if has_all(tools, alone)]
    lacking = [tools for tools in all_sets(shop.costs) if not has_all(tools, alone)]
    # Each set that has it would leave less by what the tool cost more, and no other set would.
    return [0, most_left(shop.costs, shop.jobs, having) - most_left(shop.costs, shop.jobs, lacking)]


def tell_money(shop, numbers):
    within = [tools for tools in all_sets(shop.costs) if cost_of(shop.costs, tools) <= numbers[0]]
    lowest = best_of(shop.costs, shop.jobs, within)[0]
    return [left_by(shop.costs, shop.jobs, lowest), lowest]


def tell_shares(shop, numbers):
    tools = numbers[0]
    if not is_set(shop.costs, tools):
        return [NOT_TAKEN]
    done = done_with(shop.jobs, tools)
    shares = shares_of(shop.costs, shop.jobs, done)
    told = [len(done)]
    for number in done:
        told.append(number)
        told.extend(lowest_terms(shares[number][0], shares[number][1]))
    return told


def tell_jobs(shop, numbers):
    told = [len(shop.jobs)]
    for number in shop.jobs:
        told.extend([number, shop.jobs[number][0], shop.jobs[number][1]])
    return told


QUESTIONS = {
    5: tell_best,
    6: look_at,
    7: tell_times,
    8: tell_steps,
    9: tell_lacks,
    10: tell_spare,
    11: tell_money,
    12: tell_shares,
    13: tell_jobs,
}


def ask(shop, call, numbers):
    return QUESTIONS[call](shop, numbers)
