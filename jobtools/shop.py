"""The calls on one shop, read from one list and answered into another."""

from jobtools.changes import change, is_change
from jobtools.questions import ask
from jobtools.state import Shop

# The one call with a row: how many numbers it has stands in the list itself.
TOOLS = 0
# How many numbers stand behind each other call, by the call's number.
NUMBERS = {1: 2, 2: 1, 3: 2, 4: 2, 5: 0, 6: 1, 7: 2, 8: 0, 9: 1, 10: 1, 11: 1, 12: 1, 13: 0}


def first_number(calls, place):
    """Where the numbers begin of the call that stands at place."""
    return place + 2 if calls[place] == TOOLS else place + 1


def how_many_numbers(calls, place):
    return calls[place + 1] if calls[place] == TOOLS else NUMBERS[calls[place]]


def answer(shop, call, numbers):
    if is_change(call):
        return change(shop, call, numbers)
    return ask(shop, call, numbers)


def answers(calls):
    """For each call, in order, how many numbers are answered, then these."""
    shop = Shop()
    told = []
    place = 0
    while place < len(calls):
        first = first_number(calls, place)
        end = first + how_many_numbers(calls, place)
        told_now = answer(shop, calls[place], calls[first:end])
        told.append(len(told_now))
        told.extend(told_now)
        place = end
    return told
