"""Writes calls in the form that is handed in, and takes the answers apart."""

from playseason.company import answers

GREATEST = 4294967295


def row(numbers):
    return [len(numbers), *numbers]


def begins(costs=0, limit=0, wages=0, crowds=(100,)):
    return [0, costs, limit, wages, *row(crowds)]


def play(brings=(10,), setting=0, strike=0, runs=1, least=0, most=1):
    return [1, setting, strike, runs, least, most, *row(brings)]


def join(parts=1):
    return [2, parts]


def best(weeks):
    return [3, weeks]


def plain(weeks):
    return [4, weeks]


def check(*plan):
    call = [5, len(plan)]
    for bill in plan:
        call += row(bill)
    return call


def bring(money):
    return [6, money]


def line(*calls):
    numbers = []
    for call in calls:
        numbers += [0, len(call), *call]
    return numbers


def apart(told):
    """The answers one by one; fails if the counts don't fit what follows them."""
    parts = []
    place = 0
    while place < len(told):
        count = told[place]
        if count < 1 or place + 1 + count > len(told):
            raise AssertionError(f"a count of {count} at {place} of {told}")
        parts.append(told[place + 1:place + 1 + count])
        place += 1 + count
    return parts


def ask(*calls):
    told = apart(answers(line(*calls)))
    if len(told) != len(calls):
        raise AssertionError(f"{len(told)} answers to {len(calls)} calls")
    return told


def last(*calls):
    return ask(*calls)[-1]
