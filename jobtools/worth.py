"""What a set of tools leaves, and which sets leave most."""

from jobtools.toolsets import all_sets, cost_of, has_all


def done_with(jobs, tools):
    """The numbers of the jobs that are done with the set, in order."""
    # Numbers only rise, so the order in which jobs came is the order of their numbers.
    return [number for number in jobs if has_all(tools, jobs[number][1])]


def paid_with(jobs, tools):
    return sum([jobs[number][0] for number in done_with(jobs, tools)])


def left_by(costs, jobs, tools):
    return paid_with(jobs, tools) - cost_of(costs, tools)


def most_left(costs, jobs, sets):
    """The most that one of these sets leaves."""
    return max([left_by(costs, jobs, tools) for tools in sets])


def best_of(costs, jobs, sets):
    """Those of these sets that leave most, in the order in which they stand."""
    most = most_left(costs, jobs, sets)
    return [tools for tools in sets if left_by(costs, jobs, tools) == most]


def worth_having(costs, jobs):
    """The sets that leave most; there is always one, since the set 0 can be had."""
    return best_of(costs, jobs, all_sets(costs))
