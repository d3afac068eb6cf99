"""What a set of tools leaves, and which sets leave most."""

from jobtools.toolsets import cost_of, has_all, how_many_sets


def done_with(jobs, tools):
    """The numbers of the jobs that are done with the set, in order."""
    # Numbers only rise, so the order in which jobs came is the order of their numbers.
    return [number for number in jobs if has_all(tools, jobs[number][1])]


def left_by(costs, jobs, tools):
    paid = sum([jobs[number][0] for number in done_with(jobs, tools)])
    return paid - cost_of(costs, tools)


def worth_having(costs, jobs):
    """The sets that leave most; there is always one, since the set 0 can be had."""
    left = [left_by(costs, jobs, tools) for tools in range(how_many_sets(costs))]
    most = max(left)
    return [tools for tools, much in enumerate(left) if much == most]
