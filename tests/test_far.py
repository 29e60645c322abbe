"""far: letting go what's wanted last, act by act."""

import unittest

from calls import ask, far, joined, judge, last, num, say, says, two, work

NEXT = (4, 0)


def put(v):
    return (0, v)


def got(v):
    return (1, v)


def drop(v):
    return (2, v)


def in_place(v):
    return (5, v)


class Far(unittest.TestCase):
    def check(self, k, steps, acts):
        """The plan is told; judge finds it right, at the price that's told, and it says what says tells."""
        for prices in ((1, 1, 1), (3, 4, 5), (9, 0, 0), (0, 9, 0), (0, 0, 9), (0, 0, 0), (9, 9, 9)):
            puts = len([act for act in acts if act[0] == 0])
            gets = len([act for act in acts if act[0] == 1])
            price = puts * prices[0] + gets * prices[1]
            told = ask(work(k, *prices), *steps, far(), judge(*acts), says())
            self.assertEqual(told[-3], [price, len(acts)] + joined(acts))
            self.assertEqual(told[-2], [1, price] + told[-1])


class NothingLeaves(Far):
    def test_no_steps(self):
        self.assertEqual(last(far()), [0, 0])
        for k in (2, 3, 4):
            self.check(k, [], [])

    def test_registers_are_free(self):
        self.check(2, [num(5), num(6), say(1), say(0)], [NEXT] * 4)
        self.check(3, [num(5), num(6), two(0, 0, 1), say(2)], [NEXT] * 4)
        self.check(4, [num(5), num(6), num(7), num(8), say(0), say(3)], [NEXT] * 6)

    def test_a_say_needs_no_free_one(self):
        self.check(2, [num(5), num(6), say(0), say(1), say(0)], [NEXT] * 5)


class InPlace(Far):
    def test_of_one_that_is_not_wanted(self):
        self.check(2, [num(5), num(6), num(7), say(0)], [NEXT, NEXT, in_place(1), NEXT])
        self.check(2, [num(5), num(6), num(7), say(1)], [NEXT, NEXT, in_place(0), NEXT])

    def test_of_several_not_wanted_the_greatest(self):
        self.check(2, [num(5), num(6), num(7), num(8)], [NEXT, NEXT, in_place(1), in_place(2)])
        self.check(4, [num(n) for n in range(6)], [NEXT] * 4 + [in_place(3), in_place(4)])

    def test_of_one_that_is_used_by_the_step(self):
        self.check(2, [num(5), num(6), two(0, 0, 1)], [NEXT, NEXT, in_place(1)])
        self.check(2, [num(5), num(6), two(0, 0, 1), say(0)], [NEXT, NEXT, in_place(1), NEXT])

    def test_wanted_from_the_step_behind_on(self):
        self.check(2, [num(5), num(6), two(0, 0, 1), say(1)], [NEXT, NEXT, in_place(0), NEXT])
        self.check(
            2, [num(5), num(6), two(0, 0, 1), say(1), say(0)],
            [NEXT, NEXT, put(0), in_place(0), NEXT, drop(2), got(0), NEXT])

    def test_of_the_one_wanted_last(self):
        self.check(
            2, [num(5), num(6), two(0, 0, 1), say(0), say(1)],
            [NEXT, NEXT, put(1), in_place(1), NEXT, drop(2), got(1), NEXT])
        self.check(
            3, [num(5), num(6), num(7), num(8), say(2), say(0), say(1), say(3)],
            [NEXT, NEXT, NEXT, put(1), in_place(1), NEXT, NEXT, drop(2), got(1), NEXT, NEXT])

    def test_the_first_use_counts_not_the_last(self):
        self.check(
            2, [num(5), num(6), num(7), say(0), say(1), say(0)],
            [NEXT, NEXT, put(1), in_place(1), NEXT, drop(2), got(1), NEXT, NEXT])

    def test_of_several_wanted_equally_late_the_greatest(self):
        self.check(
            2, [num(5), num(6), num(7), two(0, 0, 1)],
            [NEXT, NEXT, put(1), in_place(1), drop(2), got(1), in_place(1)])
        self.check(
            2, [num(5), num(6), num(7), two(0, 1, 0)],
            [NEXT, NEXT, put(1), in_place(1), drop(2), got(1), in_place(1)])
        self.check(
            3, [num(5), num(6), num(7), num(8), say(0), two(0, 1, 2)],
            [NEXT, NEXT, NEXT, put(2), in_place(2), NEXT, drop(3), got(2), in_place(2)])


class Dropped(Far):
    def test_one_that_is_not_wanted_any_more(self):
        self.check(
            2, [num(5), num(6), num(7), say(2), say(0), say(1)],
            [NEXT, NEXT, put(1), in_place(1), NEXT, NEXT, drop(2), got(1), NEXT])

    def test_that_one_ahead_of_one_that_is_wanted(self):
        self.check(
            2, [num(5), num(6), num(7), say(0), say(1), say(2)],
            [NEXT, NEXT, put(1), in_place(1), NEXT, drop(0), got(1), NEXT, NEXT])
        self.check(
            3, [num(5), num(6), num(7), num(8), say(0), say(2), say(1), say(3)],
            [NEXT, NEXT, NEXT, put(1), in_place(1), NEXT, NEXT, drop(2), got(1), NEXT, NEXT])

    def test_one_that_is_wanted(self):
        self.check(
            2, [num(5), num(6), num(7), say(1), say(0), say(1), say(2)],
            [NEXT, NEXT, put(0), in_place(0), NEXT, put(2), drop(2), got(0), NEXT, NEXT, drop(1), got(2), NEXT])

    def test_of_several_wanted_equally_late_the_greatest(self):
        self.check(
            3, [num(5), num(6), num(7), num(8), say(1), say(2), say(0), say(1), two(0, 2, 3)],
            [NEXT, NEXT, NEXT, put(0), in_place(0), NEXT, NEXT, put(3), drop(3), got(0), NEXT, NEXT,
             drop(1), got(3), in_place(3)])

    def test_not_one_that_the_step_uses(self):
        # Value 0 isn't wanted behind the step that 1 is got for; still 3 leaves, which is.
        self.check(
            3, [num(5), num(6), num(7), num(8), say(3), say(2), two(0, 0, 1), say(2), say(3)],
            [NEXT, NEXT, NEXT, put(1), in_place(1), NEXT, NEXT, put(3), drop(3), got(1),
             in_place(1), NEXT, drop(4), got(3), NEXT])

    def test_what_was_put_away_is_not_put_away_again(self):
        self.check(
            2, [num(5), num(6), two(1, 1, 0), two(6, 0, 1), two(1, 3, 2), two(1, 1, 4)],
            [NEXT, NEXT, put(1), in_place(1), put(2), drop(2), got(1), in_place(0), drop(1), got(2),
             in_place(3), drop(2), got(1), in_place(4)])


class Got(Far):
    def test_a_ahead_of_b(self):
        ahead = [num(5), num(6), num(7), num(8), two(0, 2, 3)]
        acts = [NEXT, NEXT, put(1), in_place(1), put(0), in_place(0), in_place(3)]
        self.check(2, ahead + [two(0, 0, 1)], acts + [drop(4), got(0), drop(2), got(1), in_place(1)])
        self.check(2, ahead + [two(0, 1, 0)], acts + [drop(4), got(1), drop(2), got(0), in_place(1)])

    def test_once_for_a_step_that_uses_it_twice(self):
        self.check(
            2, [num(5), num(6), num(7), say(0), two(0, 1, 1)],
            [NEXT, NEXT, put(1), in_place(1), NEXT, drop(2), got(1), in_place(1)])

    def test_a_number_is_not_made_again(self):
        steps = [num(5), num(6), num(7), say(0), say(1)]
        self.assertEqual(last(work(2, 9, 8, 0), *steps, far())[0], 17)

    def test_beside_one_that_is_in_a_register_still(self):
        steps = [num(5), num(6), num(7), num(8), num(9), say(0)]
        acts = [NEXT, NEXT, NEXT, put(2), in_place(2), in_place(3), NEXT, drop(4), got(2), in_place(2)]
        self.check(3, steps + [two(0, 1, 2)], acts)
        self.check(3, steps + [two(0, 2, 1)], acts)


if __name__ == "__main__":
    unittest.main()
