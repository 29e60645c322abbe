"""The least price: that of the cheapest way through all steps.

Only such plans are gone through as bring a value back right ahead of a step that uses it, and let one go, put away or
not, when its place is needed: whatever does so earlier can wait without costing more. A value that isn't wanted any
more counts as gone, for its place costs nothing.

A way is a tuple: the values in registers, the values put away, both in rising order, and the price so far.
"""

from putaway.steps import gives, is_wanted, numbers_given, used, values_given


def cheapest(ways):
    """Of the ways that have come to the same the cheapest alone."""
    prices = {}
    for held, away, price in ways:
        if (held, away) not in prices or price < prices[(held, away)]:
            prices[(held, away)] = price
    return [(state[0], state[1], price) for state, price in prices.items()]


def with_held(way, value, price):
    return (tuple(sorted(way[0] + (value,))), way[1], way[2] + price)


def without_held(way, value):
    return (tuple([other for other in way[0] if other != value]), way[1], way[2])


def with_away(way, value, price):
    return (way[0], tuple(sorted(way[1] + (value,))), way[2] + price)


def still_wanted(steps, way, start):
    held = tuple([value for value in way[0] if is_wanted(steps, value, start)])
    away = tuple([value for value in way[1] if is_wanted(steps, value, start)])
    return (held, away, way[2])


def ways_to_let_go(work, way, value):
    """A value that's wanted leaves only if it can come back: it's put away, or can be made again."""
    left = without_held(way, value)
    if value in way[1]:
        return [left]
    put = with_away(left, value, work.put_price)
    if value in numbers_given(work.steps):
        return [put, left]
    return [put]


def with_room(work, way, kept):
    """The way itself if a register is free, else those that let go one of the values that aren't kept."""
    if len(way[0]) < work.registers:
        return [way]
    ways = []
    for value in way[0]:
        if value not in kept:
            ways.extend(ways_to_let_go(work, way, value))
    return ways


def price_to_bring(work, way, value):
    prices = []
    if value in way[1]:
        prices.append(work.get_price)
    if value in numbers_given(work.steps):
        prices.append(work.again_price)
    return min(prices)


def bring(work, way, value, kept):
    if value in way[0]:
        return [way]
    price = price_to_bring(work, way, value)
    return [with_held(room, value, price) for room in with_room(work, way, kept)]


def bring_all(work, ways, value, kept):
    found = []
    for way in ways:
        found.extend(bring(work, way, value, kept))
    return cheapest(found)


def do_step(work, way, at):
    """What the step uses is in registers. The value that it gives needs a place, wanted or not."""
    rest = still_wanted(work.steps, way, at + 1)
    if not gives(work.steps[at]):
        return [rest]
    value = values_given(work.steps[:at])
    rooms = with_room(work, rest, [])
    return [still_wanted(work.steps, with_held(room, value, 0), at + 1) for room in rooms]


def do_step_all(work, ways, at):
    found = []
    for way in ways:
        found.extend(do_step(work, way, at))
    return cheapest(found)


def least_price(work):
    ways = [((), (), 0)]
    for at, step in enumerate(work.steps):
        for value in used(step):
            ways = bring_all(work, ways, value, used(step))
        ways = do_step_all(work, ways, at)
    return min([way[2] for way in ways])
