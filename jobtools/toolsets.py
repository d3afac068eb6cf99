"""Sets of tools as numbers: 1 for tool 1, 2 for tool 2, 4 for tool 3, and so on."""


def how_many_sets(costs):
    return 1 << len(costs)


def all_sets(costs):
    """Every set of these tools, the lowest number first."""
    return list(range(how_many_sets(costs)))


def is_set(costs, tools):
    return tools < how_many_sets(costs)


def is_tool(costs, tool):
    return tool > 0 and tool <= len(costs)


def set_of_one(tool):
    return 1 << (tool - 1)


def has_all(tools, needs):
    return tools & needs == needs


def cost_of(costs, tools):
    return sum([cost for place, cost in enumerate(costs) if tools >> place & 1 == 1])


def what_all_have(sets):
    common = sets[0]
    for tools in sets:
        common = common & tools
    return common


def what_some_has(sets):
    joined = 0
    for tools in sets:
        joined = joined | tools
    return joined
