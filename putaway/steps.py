"""The work and its steps: what each step uses and gives."""

# The sorts of steps, as shows tells them.
NUMBER = 0
TWO = 1
SAY = 2


class Work:
    """The work that a line's calls are about. A step is a tuple: its sort, then its numbers."""

    def __init__(self):
        self.registers = 2
        self.put_price = 1
        self.get_price = 1
        self.again_price = 1
        self.steps = []


def used(step):
    """The values that the step uses, a ahead of b; one that it uses twice stands there twice."""
    if step[0] == TWO:
        return [step[2], step[3]]
    if step[0] == SAY:
        return [step[1]]
    return []


def gives(step):
    return step[0] != SAY


def values_given(steps):
    """How many values the steps give; they are numbered from 0, so this is the first that isn't given."""
    return len([step for step in steps if gives(step)])


def numbers_given(steps):
    """The values that number steps give: those that can be made again."""
    giving = [step for step in steps if gives(step)]
    return [value for value, step in enumerate(giving) if step[0] == NUMBER]


def first_use(steps, value, start):
    """The first step from start on that uses the value; if there's none, what's later than all steps."""
    for at in range(start, len(steps)):
        if value in used(steps[at]):
            return at
    return len(steps)


def is_wanted(steps, value, start):
    return first_use(steps, value, start) < len(steps)


def there_behind(steps, at):
    """How many values are there behind step at: its own is there even if it isn't wanted."""
    before = values_given(steps[:at])
    wanted = [value for value in range(before) if is_wanted(steps, value, at + 1)]
    return len(wanted) + values_given(steps[at:at + 1])


def most_at_once(steps):
    return max([there_behind(steps, at) for at in range(len(steps))], default=0)
