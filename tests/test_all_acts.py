"""least, far and judge against the document's words, over many works: here all acts are tried, one by one."""

import heapq
import itertools
import random
import unittest

from calls import ask, far, joined, judge, last, least, most, num, say, says, two, work

PRICES = ((1, 1, 1), (3, 4, 5), (0, 2, 3), (2, 0, 1), (1, 2, 0), (9, 1, 9), (0, 0, 9), (4, 1, 6), (9, 9, 9), (5, 3, 2))


class Told:
    """A work as the document tells it: what each step uses, the value that it gives or None, and the number values."""

    def __init__(self, k, prices, steps):
        self.k = k
        self.prices = prices
        self.steps = steps
        self.uses = []
        self.gives = []
        self.numbers = []
        for step in steps:
            self.uses.append(list(step[2:] if step[0] == 2 else step[1:] if step[0] == 3 else []))
            given = len([value for value in self.gives if value is not None])
            self.gives.append(None if step[0] == 3 else given)
            if step[0] == 1:
                self.numbers.append(given)

    def calls(self):
        return [work(self.k, *self.prices)] + self.steps

    def use_from(self, value, start):
        """The steps from start on that use the value."""
        return [at for at in range(start, len(self.steps)) if value in self.uses[at]]


START = (0, frozenset(), frozenset())


def can_be_done(told, state):
    """Each act that can be done, its price, and what has come of it: steps done, in registers, put away."""
    done, held, away = state
    put, get, again = told.prices
    free = len(held) < told.k
    for v in held:
        yield (0, v), put, (done, held, away | {v})
        yield (2, v), 0, (done, held - {v}, away)
    for v in away - held:
        if free:
            yield (1, v), get, (done, held | {v}, away)
    for v in told.numbers:
        if free and v in told.gives[:done] and v not in held:
            yield (3, v), again, (done, held | {v}, away)
    if done == len(told.steps) or not held.issuperset(told.uses[done]):
        return
    new = told.gives[done]
    if new is None:
        yield (4, 0), 0, (done + 1, held, away)
        return
    if free:
        yield (4, 0), 0, (done + 1, held | {new}, away)
    for v in held:
        yield (5, v), 0, (done + 1, held - {v} | {new}, away)


def cheapest_plan(told):
    """The least price of all right plans, and one that has it: what's cheapest so far goes on first."""
    prices = {START: 0}
    plans = {START: []}
    ahead = [(0, 0, START)]
    counted = itertools.count(1)
    while True:
        price, _, state = heapq.heappop(ahead)
        if price > prices[state]:
            continue
        if state[0] == len(told.steps):
            return price, plans[state]
        for act, cost, behind in can_be_done(told, state):
            if behind not in prices or price + cost < prices[behind]:
                prices[behind] = price + cost
                plans[behind] = plans[state] + [act]
                heapq.heappush(ahead, (price + cost, next(counted), behind))


def judged(told, acts, words):
    """What judge is to answer."""
    state, price = START, 0
    for at, act in enumerate(acts):
        ways = {way[0]: way[1:] for way in can_be_done(told, state)}
        if act not in ways:
            return [0, at]
        price += ways[act][0]
        state = ways[act][1]
    if state[0] < len(told.steps):
        return [0, len(acts)]
    return [1, price] + words


def wanted_last(told, values, start):
    late = sorted((told.use_from(v, start) or [len(told.steps)])[:1] + [v] for v in values)
    return late[-1][1]


def far_plan(told):
    acts, held, away = [], set(), set()

    def let_go(values, start):
        v = wanted_last(told, values, start)
        if told.use_from(v, start) and v not in away:
            acts.append((0, v))
            away.add(v)
        held.remove(v)
        return v

    for at, uses in enumerate(told.uses):
        for v in uses:
            if v not in held:
                if len(held) == told.k:
                    acts.append((2, let_go(held - set(uses), at)))
                acts.append((1, v))
                held.add(v)
        full = told.gives[at] is not None and len(held) == told.k
        acts.append((5, let_go(held, at + 1)) if full else (4, 0))
        if told.gives[at] is not None:
            held.add(told.gives[at])
    return acts


def most_at_once(told):
    counts = [0]
    for at in range(len(told.steps)):
        given = [v for v in told.gives[:at + 1] if v is not None]
        counts.append(len([v for v in given if v == told.gives[at] or told.use_from(v, at + 1)]))
    return max(counts)


def changed(chance, acts, values):
    """The acts with one taken out, doubled, put elsewhere or made another."""
    acts = list(acts)
    at = chance.randrange(len(acts))
    sort = chance.randrange(5)
    if sort == 0:
        acts.pop(at)
    elif sort == 1:
        acts.insert(at, acts[at])
    elif sort == 2:
        acts.insert(chance.randrange(len(acts)), acts.pop(at))
    else:
        first = chance.randrange(6)
        act = (4, 0) if first == 4 else (first, chance.randrange(values + 1))
        acts[at:at + sort - 3] = [act]
    return acts


def wandered(chance, told):
    """A plan that wanders: at each place one of the acts that can be done, steps more often than others."""
    acts, state = [], START
    while len(acts) < 60 and state[0] < len(told.steps):
        ways = list(can_be_done(told, state))
        steps = [way for way in ways if way[0][0] > 3]
        act, _, state = chance.choice(steps if steps and chance.randrange(3) else ways)
        acts.append(act)
    return acts


def next_steps(given):
    """Each step that can stand behind steps that give so many values; the operation is as good as any."""
    steps = [num(given + 3)]
    steps += [two(given % 6, a, b) for a in range(given) for b in range(given)]
    return steps + [say(a) for a in range(given)]


def all_rows(length):
    """Every row of so many steps, by what they use and give."""
    rows = [([], 0)]
    for _ in range(length):
        rows = [
            (row + [step], given if step[0] == 3 else given + 1)
            for row, given in rows for step in next_steps(given)]
    return [row for row, given in rows]


def some_value(chance, unused, given):
    """Mostly one that no step has used: so many are wanted at once."""
    value = chance.choice(unused) if unused and chance.randrange(4) else chance.randrange(given)
    if value in unused:
        unused.remove(value)
    return value


def some_row(chance, k, length):
    """One that begins with some numbers, often more than there are registers."""
    row = [num(chance.randrange(100)) for _ in range(chance.randrange(1, k + 4))][:length]
    given = len(row)
    unused = list(range(given))
    while len(row) < length:
        sort = chance.choice((0, 1, 1, 1, 2))
        if sort == 0:
            row.append(num(chance.randrange(100)))
        elif sort == 1:
            values = [some_value(chance, unused, given) for _ in range(2)]
            row.append(two(chance.randrange(10), *values))
        else:
            row.append(say(some_value(chance, unused, given)))
        if sort < 2:
            unused.append(given)
            given += 1
    return row


class Against(unittest.TestCase):
    def check(self, told):
        """The least price is that of all plans; far's plan is as told; judge finds both right."""
        price, acts = cheapest_plan(told)
        plan = far_plan(told)
        rows = ask(*told.calls(), says(), most(), least(), far(), judge(*acts), judge(*plan))
        words, many, cheap, late, one, other = rows[-6:]
        self.assertEqual(cheap, [price])
        self.assertEqual(late[1:], [len(plan)] + joined(plan))
        self.assertEqual(one, [1, price] + words)
        self.assertEqual(other, [1, late[0]] + words)
        self.assertEqual(many, [most_at_once(told)])
        self.assertGreaterEqual(late[0], price)
        # As good as the best where putting away costs nothing; far never makes again, so that must not be cheaper.
        if told.prices[0] == 0 and told.prices[1] <= told.prices[2]:
            self.assertEqual(late[0], price)
        return price


class AllSmallWorks(Against):
    def check_all(self, k, length):
        """How many of them have a price above 0."""
        prices = itertools.cycle(PRICES)
        needed = 0
        for row in all_rows(length):
            told = Told(k, next(prices), row)
            with self.subTest(k=k, prices=told.prices, row=row):
                needed += self.check(told) > 0
        return needed

    def test_up_to_three_steps(self):
        for k in (2, 3, 4):
            for length in range(4):
                self.assertEqual(self.check_all(k, length), 0)

    def test_four_steps(self):
        self.assertGreater(self.check_all(2, 4), 0)

    def test_five_steps(self):
        self.assertGreater(self.check_all(2, 5), 0)
        self.assertEqual(self.check_all(3, 5), 0)


class SomeWorks(Against):
    def check_some(self, k, count, shortest, longest):
        chance = random.Random(1000 * k + longest)
        needed = 0
        for _ in range(count):
            prices = tuple(chance.choice((0, 1, 2, 3, 5, 9)) for _ in range(3))
            told = Told(k, prices, some_row(chance, k, chance.randrange(shortest, longest + 1)))
            with self.subTest(k=k, prices=told.prices, row=told.steps):
                needed += self.check(told) > 0
        self.assertGreater(needed, count // 20)

    def test_two_registers(self):
        self.check_some(2, 600, 5, 8)

    def test_three_registers(self):
        self.check_some(3, 400, 6, 8)

    def test_four_registers(self):
        self.check_some(4, 300, 8, 9)

    def test_ten_steps(self):
        for k in (2, 3, 4):
            self.check_some(k, 30, 10, 10)


class SomePlans(unittest.TestCase):
    def check(self, told, plans):
        """judge answers as told of each plan, and none that's right costs less than the least."""
        words, cheap = ask(*told.calls(), says(), least())[-2:]
        right = 0
        for acts in plans:
            answered = last(*told.calls(), judge(*acts))
            with self.subTest(k=told.k, prices=told.prices, row=told.steps, acts=acts):
                self.assertEqual(answered, judged(told, acts, words))
                if answered[0] == 1:
                    right += 1
                    self.assertGreaterEqual(answered[1], cheap[0])
                    self.assertEqual(answered[2:], words)
        return right

    def test_changed_ones(self):
        chance = random.Random(7)
        right = 0
        for _ in range(300):
            k = chance.choice((2, 2, 3))
            told = Told(k, chance.choice(PRICES), some_row(chance, k, chance.randrange(3, 8)))
            good = [cheapest_plan(told)[1], far_plan(told)]
            plans = [changed(chance, chance.choice(good), len(told.steps)) for _ in range(20)]
            right += self.check(told, plans)
        self.assertGreater(right, 300)

    def test_wandering_ones(self):
        chance = random.Random(8)
        right = 0
        for _ in range(300):
            k = chance.choice((2, 3, 4))
            told = Told(k, chance.choice(PRICES), some_row(chance, k, chance.randrange(3, 11)))
            right += self.check(told, [wandered(chance, told) for _ in range(10)])
        self.assertGreater(right, 300)


if __name__ == "__main__":
    unittest.main()
