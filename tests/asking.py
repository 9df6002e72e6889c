"""Builds lists of calls for the tests, and takes the answers apart, call by call."""

from sailwardrobe.loft import answers

GREAT = 4294967295


def begins(least, greatest):
    return [0, least, greatest]


def sail(least, greatest, cost=1):
    return [1, least, greatest, cost]


def check(k, chosen):
    return [2, k, chosen]


def best(k):
    return [3, k]


def fewest():
    return [4]


def joined(calls):
    return [number for call in calls for number in call]


def split(told):
    parts = []
    start = 0
    while start < len(told):
        end = start + 1 + told[start]
        if told[start] < 1 or end > len(told):
            raise AssertionError(f"no count of the answers at {start}: {told}")
        parts.append(told[start + 1:end])
        start = end
    return parts


def ask(*calls):
    """The answers to the calls, a list for each."""
    parts = split(answers(joined(calls)))
    if len(parts) != len(calls):
        raise AssertionError(f"{len(calls)} calls, {len(parts)} answers: {parts}")
    return parts


def last(*calls):
    """The answer to the last of the calls."""
    return ask(*calls)[-1]
