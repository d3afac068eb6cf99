"""Writes lists of calls, and takes the answers apart call by call."""

from jobtools.shop import answers

TOP = 4294967295

BEST = [5]


def tools(*costs):
    return [0, len(costs), *costs]


def job(pays, needs):
    return [1, pays, needs]


def gone(number):
    return [2, number]


def pay(number, price):
    return [3, number, price]


def cost(tool, price):
    return [4, tool, price]


def look(tools_set):
    return [6, tools_set]


def joined(calls):
    return [number for call in calls for number in call]


def split(told):
    """The answers of each call, by the counts before them."""
    parts = []
    place = 0
    while place < len(told):
        end = place + 1 + told[place]
        if not place + 1 < end <= len(told):
            raise AssertionError(f"a wrong count at {place} of {told}")
        parts.append(told[place + 1:end])
        place = end
    return parts


def asked(*calls):
    return split(answers(joined(calls)))


def last(*calls):
    return asked(*calls)[-1]
