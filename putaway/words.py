"""The words that the operations make, and those that the work says."""

from putaway.steps import NUMBER, TWO

WORDS = 4294967296
BITS = 32

# The operations' numbers; whether two words are the same is the one that's left.
SUM = 0
DIFFERENCE = 1
PRODUCT = 2
AND = 3
OR = 4
EXCLUSIVE_OR = 5
TIMES_POWER = 6
DIVIDED_BY_POWER = 7
IS_LESS = 8


def made(operation, first, second):
    if operation == SUM:
        return (first + second) % WORDS
    if operation == DIFFERENCE:
        return (first - second) % WORDS
    if operation == PRODUCT:
        return (first * second) % WORDS
    if operation == AND:
        return first & second
    if operation == OR:
        return first | second
    if operation == EXCLUSIVE_OR:
        return first ^ second
    if operation == TIMES_POWER:
        return (first << (second % BITS)) % WORDS
    if operation == DIVIDED_BY_POWER:
        return first >> (second % BITS)
    if operation == IS_LESS:
        return 1 if first < second else 0
    return 1 if first == second else 0


def words_said(steps):
    """What the steps say, done one behind another with all values at hand."""
    words = []
    said = []
    for step in steps:
        if step[0] == NUMBER:
            words.append(step[1])
        elif step[0] == TWO:
            words.append(made(step[1], words[step[2]], words[step[3]]))
        else:
            said.append(words[step[1]])
    return said
