"""Calls written as lists of numbers, and the answers taken apart again."""

from firstbadyard.trying import answers

LARGEST = 4294967295
AT_WORST = 0
ON_THE_AVERAGE = 1


def begins():
    return [0]


def change(cost=1, weight=1, tried=1, parents=()):
    return [1, cost, weight, tried, len(parents)] + list(parents)


def plain(*parents):
    return change(parents=parents)


def found(c, bad):
    return [2, c, bad]


def left():
    return [3]


def best(kind):
    return [4, kind]


def way(kind):
    return [5, kind]


def half():
    return [6]


def upon(c):
    return [7, c]


def joined(calls):
    return [number for call in calls for number in call]


def taken_apart(numbers):
    parts = []
    start = 0
    while start < len(numbers):
        end = start + 1 + numbers[start]
        if numbers[start] < 1 or end > len(numbers):
            raise AssertionError(f"no such count at {start}: {numbers}")
        parts.append(numbers[start + 1:end])
        start = end
    return parts


def ask(*calls):
    """Each call's answer, as a list of its own."""
    parts = taken_apart(answers(joined(calls)))
    if len(parts) != len(calls):
        raise AssertionError(f"{len(calls)} calls, {len(parts)} answers")
    return parts


def last(*calls):
    return ask(*calls)[-1]
