"""The calls on one work, and what is answered of each."""

from putaway.far import far_plan
from putaway.least import least_price
from putaway.plans import judge
from putaway.steps import NUMBER, SAY, TWO, Work, most_at_once, values_given
from putaway.words import words_said

FEWEST_REGISTERS = 2
MOST_REGISTERS = 4
HIGHEST_PRICE = 9
MOST_STEPS = 10
OPERATIONS = 10

# The calls' numbers.
CALL_WORK = 0
CALL_NUM = 1
CALL_TWO = 2
CALL_SAY = 3
CALL_SHOWS = 4
CALL_SAYS = 5
CALL_MOST = 6
CALL_LEAST = 7
CALL_FAR = 8
CALL_JUDGE = 9

# At each call's number: how many numbers stand behind it. Of judge it's the plan's count, which tells the rest.
LENGTHS = (4, 1, 3, 1, 0, 0, 0, 0, 0, 1)


def begin(work, registers, prices):
    """-1: there can't be so many registers, or a price is too high."""
    if registers < FEWEST_REGISTERS or registers > MOST_REGISTERS or max(prices) > HIGHEST_PRICE:
        return [-1]
    work.registers = registers
    work.put_price = prices[0]
    work.get_price = prices[1]
    work.again_price = prices[2]
    work.steps = []
    return [registers]


def put_behind(work, step):
    """-1: there are as many steps as there may be."""
    if len(work.steps) >= MOST_STEPS:
        return [-1]
    work.steps.append(step)
    return [len(work.steps)]


def num(work, word):
    return put_behind(work, (NUMBER, word))


def two(work, operation, first, second):
    """-4: there's no such operation; -2: a value isn't given by then."""
    if operation >= OPERATIONS:
        return [-4]
    if max(first, second) >= values_given(work.steps):
        return [-2]
    return put_behind(work, (TWO, operation, first, second))


def say(work, value):
    """-2: the value isn't given by then."""
    if value >= values_given(work.steps):
        return [-2]
    return put_behind(work, (SAY, value))


def shows(work):
    shown = [work.registers, work.put_price, work.get_price, work.again_price, len(work.steps)]
    for step in work.steps:
        shown.extend(step)
    return shown


def says(work):
    words = words_said(work.steps)
    return [len(words)] + words


def answer(work, call, numbers):
    if call == CALL_WORK:
        return begin(work, numbers[0], numbers[1:])
    if call == CALL_NUM:
        return num(work, numbers[0])
    if call == CALL_TWO:
        return two(work, numbers[0], numbers[1], numbers[2])
    if call == CALL_SAY:
        return say(work, numbers[0])
    if call == CALL_SHOWS:
        return shows(work)
    if call == CALL_SAYS:
        return says(work)
    if call == CALL_MOST:
        return [most_at_once(work.steps)]
    if call == CALL_LEAST:
        return [least_price(work)]
    if call == CALL_FAR:
        return far_plan(work)
    return judge(work, numbers[1:])


def end_of_call(calls, at):
    behind = at + 1 + LENGTHS[calls[at]]
    if calls[at] == CALL_JUDGE:
        return behind + calls[at + 1]
    return behind


def answers(calls):
    """For each call, in order: how many numbers are answered, then these."""
    work = Work()
    told = []
    at = 0
    while at < len(calls):
        behind = end_of_call(calls, at)
        one = answer(work, calls[at], calls[at + 1:behind])
        told.append(len(one))
        told.extend(one)
        at = behind
    return told
