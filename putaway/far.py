"""Letting go what's wanted last: one plan, made step by step."""

from putaway.plans import Course, DROP, GET, IN_PLACE, NEXT, PUT, do_act, has_room
from putaway.steps import first_use, gives, is_wanted, used


def add_act(course, plan, act, value):
    do_act(course, act, value)
    plan.extend([act, value])


def wanted_last(steps, values, start):
    return max(values, key=lambda value: (first_use(steps, value, start), value))


def let_go(course, plan, values, start, act):
    """One of the values leaves its register by the act, a drop or a step in its place."""
    steps = course.work.steps
    value = wanted_last(steps, values, start)
    if is_wanted(steps, value, start) and value not in course.away:
        add_act(course, plan, PUT, value)
    add_act(course, plan, act, value)


def get_used(course, plan, value, step):
    """The value is in a register then; none that the step uses leaves for it."""
    if value in course.held:
        return
    if not has_room(course):
        others = [other for other in course.held if other not in used(step)]
        let_go(course, plan, others, course.done, DROP)
    add_act(course, plan, GET, value)


def add_step(course, plan, step):
    for value in used(step):
        get_used(course, plan, value, step)
    if not gives(step) or has_room(course):
        add_act(course, plan, NEXT, 0)
    else:
        let_go(course, plan, course.held, course.done + 1, IN_PLACE)


def far_plan(work):
    course = Course(work)
    plan = []
    for step in work.steps:
        add_step(course, plan, step)
    return [course.price, len(plan) // 2] + plan
