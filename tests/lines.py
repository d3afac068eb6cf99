"""Writes lists of calls, and takes the answers apart call by call."""

from jobtools.shop import answers

TOP = 4294967295

BEST = [5]
STEPS = [8]
JOBS = [13]


def tools(*costs):
    return [0, len(costs), *costs]


def job(pays, needs):
    return [1, pays, needs]


def gone(number):
    return [2, number]


def pay(number, price):
    return [3, number, price]


def cost(tool, price):
    return [4, tool, price]


def look(tools_set):
    return [6, tools_set]


def times(above, below):
    return [7, above, below]


def lacks(number):
    return [9, number]


def spare(tool):
    return [10, tool]


def money(much):
    return [11, much]


def shares(tools_set):
    return [12, tools_set]


def joined(calls):
    return [number for call in calls for number in call]


def split(told):
    """The answers of each call, by the counts before them."""
    parts = []
    place = 0
    while place < len(told):
        end = place + 1 + told[place]
        if not place + 1 < end <= len(told):
            raise AssertionError(f"a wrong count at {place} of {told}")
        parts.append(told[place + 1:end])
        place = end
    return parts


def asked(*calls):
    return split(answers(joined(calls)))


def last(*calls):
    return asked(*calls)[-1]


# Asks for all that a shop keeps: costs one by one, jobs, and (by a new job's number) which number comes next.
def everything(many):
    return [JOBS, BEST] + [look(1 << place) for place in range(many)] + [job(1, 1), JOBS]


class AllAsItWas:
    """For a test case: that behind a refused call a shop answers as if the call had not been there."""

    def check_refused(self, line, many, wrong, refusal):
        told = asked(*line, wrong, *everything(many))
        self.assertEqual(told.pop(len(line)), [refusal], wrong)
        self.assertEqual(told, asked(*line, *everything(many)), wrong)
