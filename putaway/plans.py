"""Plans: what each act does, when it can't be done, and whether a plan is right."""

from putaway.steps import gives, numbers_given, used, values_given
from putaway.words import words_said

PUT = 0
GET = 1
DROP = 2
AGAIN = 3
NEXT = 4
IN_PLACE = 5

MOST_NUMBERS = 200


class Course:
    """How far a plan has come: steps done, values in registers, values put away, and the price."""

    def __init__(self, work):
        self.work = work
        self.done = 0
        self.held = []
        self.away = []
        self.price = 0


def has_room(course):
    return len(course.held) < course.work.registers


def put(course, value):
    if value not in course.held:
        return False
    if value not in course.away:
        course.away.append(value)
    course.price += course.work.put_price
    return True


def bring(course, value, price):
    """The value comes into a free register."""
    if value in course.held or not has_room(course):
        return False
    course.held.append(value)
    course.price += price
    return True


def fetch(course, value):
    return value in course.away and bring(course, value, course.work.get_price)


def drop(course, value):
    if value not in course.held:
        return False
    course.held.remove(value)
    return True


def make_again(course, value):
    numbers = numbers_given(course.work.steps[:course.done])
    return value in numbers and bring(course, value, course.work.again_price)


def is_ready(course):
    """A step is left, and what it uses is in registers."""
    if course.done >= len(course.work.steps):
        return False
    return all([value in course.held for value in used(course.work.steps[course.done])])


def finish_step(course):
    """The next step is done; what it needed was there. The value that it gives, if any, finds a register free."""
    if gives(course.work.steps[course.done]):
        course.held.append(values_given(course.work.steps[:course.done]))
    course.done += 1


def do_next(course):
    if not is_ready(course):
        return False
    if gives(course.work.steps[course.done]) and not has_room(course):
        return False
    finish_step(course)
    return True


def do_in_place(course, value):
    if not is_ready(course) or not gives(course.work.steps[course.done]):
        return False
    if not drop(course, value):
        return False
    finish_step(course)
    return True


def do_act(course, act, value):
    """Whether the act can be done; if so, it's done, else all is as it was."""
    if act == PUT:
        return put(course, value)
    if act == GET:
        return fetch(course, value)
    if act == DROP:
        return drop(course, value)
    if act == AGAIN:
        return make_again(course, value)
    if act == NEXT:
        return do_next(course)
    return do_in_place(course, value)


def are_acts(plan):
    if len(plan) % 2 != 0:
        return False
    for at in range(0, len(plan), 2):
        if plan[at] > IN_PLACE or (plan[at] == NEXT and plan[at + 1] != 0):
            return False
    return True


def judge(work, plan):
    """-1: there are too many numbers, or they aren't acts."""
    if len(plan) > MOST_NUMBERS or not are_acts(plan):
        return [-1]
    course = Course(work)
    for at in range(0, len(plan), 2):
        if not do_act(course, plan[at], plan[at + 1]):
            return [0, at // 2]
    if course.done < len(work.steps):
        return [0, len(plan) // 2]
    # Each step found the values that it uses, so a right plan says what the work says.
    words = words_said(work.steps)
    return [1, course.price, len(words)] + words
