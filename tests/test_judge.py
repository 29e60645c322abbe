"""judge: each act, when it can't be done, and promise 3."""

import unittest

from calls import GREATEST, ask, judge, last, num, say, shows, two, work

NEXT = (4, 0)


def put(v):
    return (0, v)


def got(v):
    return (1, v)


def drop(v):
    return (2, v)


def again(v):
    return (3, v)


def in_place(v):
    return (5, v)


class Judge(unittest.TestCase):
    """The prices are 3, 4 and 5, so that each sum of a few of them is told from the others."""

    def check(self, k, steps, acts, told):
        self.assertEqual(last(work(k, 3, 4, 5), *steps, judge(*acts)), told)

    def check_right(self, k, steps, acts, price, words):
        self.check(k, steps, acts, [1, price, len(words)] + words)

    def check_last_fails(self, k, steps, acts):
        """All acts ahead of the last can be done, and leave steps; if the last could be done, it would count too."""
        self.check(k, steps, acts[:-1], [0, len(acts) - 1])
        self.check(k, steps, acts, [0, len(acts) - 1])
        self.check(k, steps, acts + [drop(9), NEXT], [0, len(acts) - 1])


class Whole(Judge):
    def test_empty_for_no_steps(self):
        self.assertEqual(last(judge()), [1, 0, 0])
        self.check_right(3, [], [], 0, [])

    def test_empty_for_some(self):
        self.check(2, [num(5)], [], [0, 0])
        self.check(2, [num(5)] * 10, [], [0, 0])

    def test_an_act_for_no_steps(self):
        for act in (put(0), got(0), drop(0), again(0), NEXT, in_place(0)):
            with self.subTest(act=act):
                self.check(2, [], [act], [0, 0])

    def test_all_acts_can_be_done_but_steps_are_left(self):
        self.check(2, [num(5), say(0)], [NEXT], [0, 1])
        self.check(2, [num(5), say(0)], [NEXT, put(0), drop(0), got(0)], [0, 4])
        self.check(2, [num(5)] * 3, [NEXT, NEXT], [0, 2])

    def test_acts_behind_the_last_step(self):
        self.check_right(2, [num(5)], [NEXT, put(0), drop(0), got(0), drop(0), again(0)], 12, [])
        self.check(2, [num(5)], [NEXT, put(0), drop(1)], [0, 2])

    def test_the_first_that_cannot_be_done_is_told(self):
        self.check(2, [num(5), say(0)], [NEXT, drop(1), drop(2), NEXT], [0, 1])
        self.check(2, [num(5), say(0)], [drop(1), NEXT, NEXT], [0, 0])
        self.check(2, [num(5), say(0)], [NEXT, NEXT, NEXT, drop(0), drop(0)], [0, 2])

    def test_words_that_are_said(self):
        self.check_right(2, [num(5), say(0), num(6), say(1), say(0)], [NEXT] * 5, 0, [5, 6, 5])
        self.check_right(
            2, [num(7), num(9), two(1, 0, 1), say(2), say(0)], [NEXT, NEXT, in_place(1), NEXT, NEXT], 0,
            [GREATEST - 1, 7])

    def test_a_price_of_0_and_of_9(self):
        acts = [NEXT, put(0), drop(0), got(0), drop(0), again(0)]
        for prices in ((0, 0, 0), (9, 0, 0), (0, 9, 0), (0, 0, 9), (9, 9, 9)):
            with self.subTest(prices=prices):
                self.assertEqual(last(work(2, *prices), num(5), judge(*acts)), [1, sum(prices), 0])

    def test_each_plan_begins_anew(self):
        told = ask(
            num(5), say(0), judge(NEXT, put(0)), judge(got(0)), judge(NEXT), judge(NEXT, NEXT), judge(NEXT, NEXT))
        self.assertEqual(told[2:], [[0, 2], [0, 0], [0, 1], [1, 0, 1, 5], [1, 0, 1, 5]])


class Put(Judge):
    def test_it_stays_in_its_register(self):
        self.check_right(2, [num(5), say(0)], [NEXT, put(0), NEXT], 3, [5])
        self.check(2, [num(5), num(6), num(7)], [NEXT, NEXT, put(0), NEXT], [0, 3])

    def test_again_and_again(self):
        self.check_right(2, [num(5), say(0)], [NEXT, put(0), put(0), NEXT, put(0)], 9, [5])

    def test_any_sort_of_value(self):
        steps = [num(5), two(0, 0, 0), say(1)]
        self.check_right(2, steps, [NEXT, NEXT, put(1), drop(1), got(1), NEXT], 7, [10])

    def test_one_that_was_got(self):
        self.check_right(2, [num(5), say(0)], [NEXT, put(0), drop(0), got(0), put(0), NEXT], 10, [5])

    def test_a_value_that_was_never_given(self):
        for v in (0, 1, 2, GREATEST):
            with self.subTest(v=v):
                self.check_last_fails(2, [num(5), num(6)], [put(v)])
        for v in (1, 2, GREATEST):
            with self.subTest(v=v):
                self.check_last_fails(2, [num(5), num(6)], [NEXT, put(v)])

    def test_a_value_in_no_register(self):
        self.check_last_fails(2, [num(5), num(6)], [NEXT, drop(0), put(0)])
        self.check_last_fails(2, [num(5), num(6)], [NEXT, put(0), drop(0), put(0)])
        self.check_last_fails(2, [num(5), num(6), num(7)], [NEXT, in_place(0), put(0)])


class Get(Judge):
    def test_it_stays_put_away(self):
        self.check_right(
            2, [num(5), say(0)], [NEXT, put(0), drop(0), got(0), drop(0), got(0), drop(0), got(0), NEXT], 15, [5])

    def test_it_takes_a_register(self):
        self.check_last_fails(
            2, [num(5), num(6), num(7)], [NEXT, put(0), drop(0), NEXT, got(0), NEXT])
        self.check_right(
            2, [num(5), num(6), say(0), say(1)], [NEXT, put(0), drop(0), NEXT, got(0), NEXT, NEXT], 7, [5, 6])

    def test_a_value_that_was_never_given(self):
        for v in (0, GREATEST):
            self.check_last_fails(2, [num(5), num(6)], [got(v)])
        for v in (1, 2, GREATEST):
            self.check_last_fails(2, [num(5), num(6)], [NEXT, got(v)])

    def test_a_value_that_is_not_put_away(self):
        self.check_last_fails(2, [num(5), num(6)], [NEXT, drop(0), got(0)])
        self.check_last_fails(3, [num(5), num(6), num(7)], [NEXT, NEXT, put(1), drop(0), got(0)])

    def test_a_value_that_is_already_in_a_register(self):
        self.check_last_fails(2, [num(5), num(6)], [NEXT, put(0), got(0)])
        self.check_last_fails(4, [num(5), num(6)], [NEXT, put(0), drop(0), got(0), got(0)])

    def test_no_free_register(self):
        for k in (2, 3, 4):
            steps = [num(n) for n in range(k + 2)]
            acts = [NEXT, put(0), drop(0)] + [NEXT] * k
            with self.subTest(k=k):
                self.check_last_fails(k, steps, acts + [got(0)])
                self.check(k, steps, acts + [drop(1), got(0)], [0, len(acts) + 2])


class Drop(Judge):
    def test_its_register_is_free(self):
        self.check_right(2, [num(5)] * 3, [NEXT, NEXT, drop(0), NEXT], 0, [])
        self.check_right(2, [num(5)] * 3, [NEXT, NEXT, drop(1), NEXT], 0, [])

    def test_it_is_gone(self):
        self.check_last_fails(2, [num(5), say(0)], [NEXT, drop(0), NEXT])

    def test_the_other_stays(self):
        self.check_right(2, [num(5), num(6), say(1)], [NEXT, NEXT, drop(0), NEXT], 0, [6])

    def test_what_is_put_away_stays_so(self):
        self.check_right(2, [num(5), say(0)], [NEXT, put(0), drop(0), got(0), NEXT], 7, [5])

    def test_a_value_that_was_never_given(self):
        for v in (0, GREATEST):
            self.check_last_fails(2, [num(5), num(6)], [drop(v)])
        for v in (1, GREATEST):
            self.check_last_fails(2, [num(5), num(6)], [NEXT, drop(v)])

    def test_a_value_in_no_register(self):
        self.check_last_fails(2, [num(5), num(6)], [NEXT, drop(0), drop(0)])
        self.check_last_fails(2, [num(5), num(6)], [NEXT, put(0), drop(0), drop(0)])
        self.check_last_fails(2, [num(5), num(6), num(7)], [NEXT, in_place(0), drop(0)])


class Again(Judge):
    def test_a_number(self):
        self.check_right(2, [num(5), say(0)], [NEXT, drop(0), again(0), NEXT], 5, [5])
        self.check_right(2, [num(5), say(0), num(6), say(1)], [NEXT, NEXT, NEXT, drop(1), again(1), NEXT], 5, [5, 6])

    def test_one_that_is_put_away_too(self):
        self.check_right(2, [num(5), say(0)], [NEXT, put(0), drop(0), again(0), NEXT], 8, [5])

    def test_it_is_not_put_away_by_that(self):
        self.check_last_fails(2, [num(5), say(0)], [NEXT, drop(0), again(0), drop(0), got(0)])

    def test_it_takes_a_register(self):
        self.check_last_fails(2, [num(5), num(6), num(7)], [NEXT, drop(0), NEXT, again(0), NEXT])

    def test_what_is_no_number(self):
        self.check_last_fails(2, [num(5), two(0, 0, 0), say(1)], [NEXT, NEXT, drop(1), again(1)])
        self.check_last_fails(2, [num(5), two(0, 0, 0), say(1)], [NEXT, NEXT, put(1), drop(1), again(1)])

    def test_a_number_behind_a_say_and_one_that_is_made(self):
        steps = [num(5), say(0), two(0, 0, 0), num(6), say(2)]
        acts = [NEXT, NEXT, in_place(0), NEXT]
        self.check_right(2, steps, acts + [drop(2), again(2), NEXT], 5, [5, 6])
        self.check_last_fails(2, steps, acts + [drop(1), again(1)])

    def test_what_is_not_given_by_then(self):
        for v in (0, 1, 2, GREATEST):
            self.check_last_fails(2, [num(5), num(6)], [again(v)])
        for v in (1, 2, GREATEST):
            self.check_last_fails(2, [num(5), num(6)], [NEXT, again(v)])
        self.check_last_fails(2, [num(5), say(0), num(6)], [NEXT, NEXT, again(1)])

    def test_what_is_already_in_a_register(self):
        self.check_last_fails(2, [num(5), num(6)], [NEXT, again(0)])
        self.check_last_fails(4, [num(5), num(6)], [NEXT, drop(0), again(0), again(0)])

    def test_no_free_register(self):
        for k in (2, 3, 4):
            steps = [num(n) for n in range(k + 2)]
            acts = [NEXT, drop(0)] + [NEXT] * k
            with self.subTest(k=k):
                self.check_last_fails(k, steps, acts + [again(0)])
                self.check(k, steps, acts + [drop(1), again(0)], [0, len(acts) + 2])


class Next(Judge):
    def test_each_sort_of_step(self):
        self.check_right(3, [num(5), num(6), two(0, 0, 1), say(2)], [NEXT] * 4, 0, [11])

    def test_as_many_as_there_are_registers(self):
        for k in (2, 3, 4):
            with self.subTest(k=k):
                self.check_right(k, [num(5)] * k, [NEXT] * k, 0, [])
                self.check_last_fails(k, [num(5)] * (k + 1), [NEXT] * (k + 1))

    def test_no_free_register_for_what_is_made(self):
        self.check_last_fails(2, [num(5), num(6), two(0, 0, 1)], [NEXT] * 3)
        self.check_last_fails(2, [num(5), num(6), two(0, 0, 0)], [NEXT] * 3)

    def test_a_say_needs_no_free_register(self):
        self.check_right(2, [num(5), num(6), say(0), say(1)], [NEXT] * 4, 0, [5, 6])

    def test_what_it_uses_is_in_no_register(self):
        steps = [num(5), num(6), two(0, 0, 1)]
        self.check_last_fails(3, steps, [NEXT, NEXT, drop(0), NEXT])
        self.check_last_fails(3, steps, [NEXT, NEXT, drop(1), NEXT])
        self.check_last_fails(3, steps, [NEXT, NEXT, drop(0), drop(1), NEXT])
        self.check_last_fails(3, [num(5), two(0, 0, 0)], [NEXT, drop(0), NEXT])
        self.check_last_fails(3, [num(5), say(0)], [NEXT, drop(0), NEXT])

    def test_what_it_uses_is_put_away_alone(self):
        self.check_last_fails(3, [num(5), say(0)], [NEXT, put(0), drop(0), NEXT])

    def test_no_step_is_left(self):
        self.check(2, [num(5)], [NEXT, NEXT], [0, 1])
        self.check(2, [num(5)], [NEXT, drop(0), NEXT], [0, 2])
        self.check(2, [num(5), say(0)], [NEXT, NEXT, NEXT], [0, 2])


class InPlace(Judge):
    def test_of_a_value_that_it_uses(self):
        steps = [num(5), num(6), two(1, 0, 1), say(2)]
        self.check_right(2, steps + [say(1)], [NEXT, NEXT, in_place(0), NEXT, NEXT], 0, [GREATEST, 6])
        self.check_right(2, steps + [say(0)], [NEXT, NEXT, in_place(1), NEXT, NEXT], 0, [GREATEST, 5])
        self.check_right(2, [num(5), two(0, 0, 0), say(1)], [NEXT, in_place(0), NEXT], 0, [10])

    def test_of_a_value_that_it_does_not_use(self):
        self.check_right(2, [num(5), num(6), two(0, 0, 0), say(2)], [NEXT, NEXT, in_place(1), NEXT], 0, [10])
        self.check_right(2, [num(5), num(6), num(7), say(2)], [NEXT, NEXT, in_place(0), NEXT], 0, [7])

    def test_though_a_register_is_free(self):
        self.check_right(4, [num(5), num(6), say(1)], [NEXT, in_place(0), NEXT], 0, [6])
        self.check_last_fails(4, [num(5), num(6), say(0)], [NEXT, in_place(0), NEXT])

    def test_the_value_is_gone(self):
        self.check_last_fails(2, [num(5), num(6), num(7), say(1)], [NEXT, NEXT, in_place(1), NEXT])
        self.check_last_fails(2, [num(5), num(6), num(7), say(1)], [NEXT, NEXT, in_place(1), drop(1)])

    def test_the_new_one_has_its_register(self):
        self.check_last_fails(2, [num(5), num(6), num(7), num(8)], [NEXT, NEXT, in_place(1), NEXT])
        self.check_right(2, [num(5)] * 4, [NEXT, NEXT, in_place(1), in_place(2)], 0, [])
        self.check_right(2, [num(5)] * 4, [NEXT, NEXT, in_place(1), in_place(0)], 0, [])

    def test_of_a_value_in_no_register(self):
        steps = [num(5), num(6), num(7)]
        self.check_last_fails(2, steps, [NEXT, drop(0), in_place(0)])
        self.check_last_fails(2, steps, [NEXT, put(0), drop(0), in_place(0)])
        self.check_last_fails(2, steps, [NEXT, NEXT, drop(0), in_place(0)])

    def test_of_a_value_that_was_never_given(self):
        for v in (0, 1, GREATEST):
            self.check_last_fails(2, [num(5), num(6)], [in_place(v)])
        # Not the one that the step gives either.
        for v in (1, 2, GREATEST):
            self.check_last_fails(2, [num(5), num(6)], [NEXT, in_place(v)])

    def test_at_a_step_that_gives_no_value(self):
        self.check_last_fails(2, [num(5), say(0)], [NEXT, in_place(0)])
        self.check_last_fails(2, [num(5), num(6), say(0)], [NEXT, NEXT, in_place(1)])

    def test_what_it_uses_is_in_no_register(self):
        steps = [num(5), num(6), two(0, 0, 1)]
        self.check_last_fails(2, steps, [NEXT, NEXT, drop(0), in_place(1)])
        self.check_last_fails(2, steps, [NEXT, NEXT, drop(1), in_place(0)])
        self.check_last_fails(2, steps, [NEXT, put(0), NEXT, drop(0), in_place(1)])

    def test_no_step_is_left(self):
        self.check(2, [num(5)], [NEXT, in_place(0)], [0, 1])
        self.check(2, [num(5), say(0)], [NEXT, NEXT, in_place(0)], [0, 2])


class NotActs(unittest.TestCase):
    """Promise 3: -1."""

    def check(self, plan, told):
        """The answer is told, and the work is as it was."""
        answered = ask(work(3, 3, 4, 5), num(5), say(0), shows(), judge(plan), shows(), judge(NEXT, NEXT))
        self.assertEqual(answered[4], told)
        self.assertEqual(answered[5], [3, 3, 4, 5, 2, 0, 5, 2, 0])
        self.assertEqual(answered[3], answered[5])
        self.assertEqual(answered[6], [1, 0, 1, 5])

    def test_how_many_numbers(self):
        for count, told in ((198, [1, 291, 1, 5]), (200, [1, 294, 1, 5]), (202, [-1]), (204, [-1]), (240, [-1])):
            with self.subTest(count=count):
                self.check([4, 0, 4, 0] + [0, 0] * ((count - 4) // 2), told)

    def test_too_many_that_could_not_be_done_either(self):
        self.check([0, 9] * 100, [0, 0])
        for count in (201, 202, 239, 240):
            with self.subTest(count=count):
                self.check(([0, 9] * 120)[:count], [-1])

    def test_an_odd_number_of_them(self):
        for count in (1, 3, 5, 199, 201, 239):
            with self.subTest(count=count):
                self.check(([4, 0, 4, 0] + [0, 0] * 120)[:count], [-1])

    def test_the_first_of_an_act(self):
        for first, told in ((0, [1, 3, 1, 5]), (1, [0, 2]), (2, [1, 0, 1, 5]), (3, [0, 2]), (4, [0, 2]), (5, [0, 2])):
            with self.subTest(first=first):
                self.check([4, 0, 4, 0, first, 0], told)
        for first in (6, 7, GREATEST):
            with self.subTest(first=first):
                self.check([first, 0], [-1])
                self.check([4, 0, 4, 0, first, 0], [-1])
                self.check([4, 0, first, 0, 4, 0], [-1])
                self.check([0, 0] * 99 + [first, 0], [-1])

    def test_behind_a_4(self):
        self.check([4, 0], [0, 1])
        for second in (1, 2, 4, 5, GREATEST):
            with self.subTest(second=second):
                self.check([4, second], [-1])
                self.check([4, 0, 4, second], [-1])
                self.check([4, second, 4, 0], [-1])

    def test_the_greatest_number_behind_each_other_first(self):
        for first in (0, 1, 2, 3, 5):
            with self.subTest(first=first):
                self.check([first, GREATEST], [0, 0])
                self.check([4, 0, first, GREATEST], [0, 1])

    def test_the_greatest_number_alone(self):
        self.check([GREATEST], [-1])
        self.check([GREATEST, GREATEST], [-1])
        self.check([GREATEST] * 240, [-1])

    def test_told_though_an_act_ahead_cannot_be_done(self):
        for ahead in ([2, 0], [0, GREATEST], [1, 0], [3, 0], [5, 0], [4, 0, 4, 0, 4, 0]):
            with self.subTest(ahead=ahead):
                self.check(ahead + [6, 0], [-1])
                self.check(ahead + [4, 1], [-1])
                self.check(ahead + [4], [-1])
                self.check(ahead + [0, 0] * 100, [-1])

    def test_told_without_steps_too(self):
        for plan in ([6, 0], [4, 1], [0], [0, 0] * 101):
            self.assertEqual(ask(judge(plan), shows()), [[-1], [2, 1, 1, 1, 0]])


if __name__ == "__main__":
    unittest.main()
