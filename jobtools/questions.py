"""The calls that only ask. Each gives back the list of its answers."""

from jobtools.limits import NOT_TAKEN
from jobtools.toolsets import cost_of, is_set, what_all_have, what_some_has
from jobtools.worth import done_with, left_by, worth_having


def tell_best(shop, numbers):
    sets = worth_having(shop.costs, shop.jobs)
    left = left_by(shop.costs, shop.jobs, sets[0])
    return [left, len(sets), what_all_have(sets), what_some_has(sets)]


def look_at(shop, numbers):
    tools = numbers[0]
    if not is_set(shop.costs, tools):
        return [NOT_TAKEN]
    done = done_with(shop.jobs, tools)
    left = left_by(shop.costs, shop.jobs, tools)
    return [0, left, cost_of(shop.costs, tools), len(done)] + done


QUESTIONS = {5: tell_best, 6: look_at}


def ask(shop, call, numbers):
    return QUESTIONS[call](shop, numbers)
