"""The calls by name, so that the tests read as the document does."""

from putaway.work import answers

GREATEST = 4294967295


def work(k, put, get, again):
    return [0, k, put, get, again]


def num(n):
    return [1, n]


def two(o, a, b):
    return [2, o, a, b]


def say(a):
    return [3, a]


def shows():
    return [4]


def says():
    return [5]


def most():
    return [6]


def least():
    return [7]


def far():
    return [8]


def judge(*acts):
    """Acts are handed in as pairs; a plan that isn't one of acts, as one row of its numbers."""
    plan = joined(acts)
    return [9, len(plan)] + plan


def joined(rows):
    return [number for row in rows for number in row]


def ask(*calls):
    """Each call's answer as a list of its own."""
    told = answers(joined(calls))
    rows = []
    at = 0
    while at < len(told):
        behind = at + 1 + told[at]
        if told[at] < 1 or behind > len(told):
            raise AssertionError(f"no count of an answer at {at}: {told}")
        rows.append(told[at + 1:behind])
        at = behind
    if len(rows) != len(calls):
        raise AssertionError(f"{len(calls)} calls, {len(rows)} answers: {told}")
    return rows


def last(*calls):
    return ask(*calls)[-1]
