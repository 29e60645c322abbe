"""The calls on one work: its registers, its prices and its steps."""

FEWEST_REGISTERS = 2
MOST_REGISTERS = 4
HIGHEST_PRICE = 9
MOST_STEPS = 10
OPERATIONS = 10

# The calls' numbers; shows is the one that's left.
CALL_WORK = 0
CALL_NUM = 1
CALL_TWO = 2
CALL_SAY = 3

# At each call's number: how many numbers stand behind it. A call that has no place here is not known.
LENGTHS = (4, 1, 3, 1, 0)

# The sorts of steps, as shows tells them.
NUMBER = 0
TWO = 1
SAY = 2


class Work:
    """The work that a line's calls are about. A step is a tuple: its sort, then its numbers."""

    def __init__(self):
        self.registers = 2
        self.prices = [1, 1, 1]
        self.steps = []


def begin(work, registers, prices):
    """-1: there can't be so many registers, or a price is too high."""
    if registers < FEWEST_REGISTERS or registers > MOST_REGISTERS or max(prices) > HIGHEST_PRICE:
        return [-1]
    work.registers = registers
    work.prices = prices
    work.steps = []
    return [registers]


def values_given(work):
    """How many values the steps give; they are numbered from 0, so this is the first that isn't given."""
    return len([step for step in work.steps if step[0] != SAY])


def put_behind(work, step):
    """-1: there are as many steps as there may be."""
    if len(work.steps) >= MOST_STEPS:
        return [-1]
    work.steps.append(step)
    return [len(work.steps)]


def num(work, word):
    return put_behind(work, (NUMBER, word))


def two(work, operation, first, second):
    """-4: there's no such operation; -2: a value isn't given by then."""
    if operation >= OPERATIONS:
        return [-4]
    if max(first, second) >= values_given(work):
        return [-2]
    return put_behind(work, (TWO, operation, first, second))


def say(work, value):
    """-2: the value isn't given by then."""
    if value >= values_given(work):
        return [-2]
    return put_behind(work, (SAY, value))


def shows(work):
    shown = [work.registers] + work.prices + [len(work.steps)]
    for step in work.steps:
        shown.extend(step)
    return shown


def answer(work, call, numbers):
    if call == CALL_WORK:
        return begin(work, numbers[0], numbers[1:])
    if call == CALL_NUM:
        return num(work, numbers[0])
    if call == CALL_TWO:
        return two(work, numbers[0], numbers[1], numbers[2])
    if call == CALL_SAY:
        return say(work, numbers[0])
    return shows(work)


def answers(calls):
    """For each call, in order: how many numbers are answered, then these."""
    work = Work()
    told = []
    at = 0
    while at < len(calls):
        call = calls[at]
        behind = at + 1 + LENGTHS[call]
        one = answer(work, call, calls[at + 1:behind])
        told.append(len(one))
        told.extend(one)
        at = behind
    return told
