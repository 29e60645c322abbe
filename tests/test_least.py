"""least: the least price, where it can be told by hand."""

import itertools
import unittest

from calls import answers, ask, joined, last, least, num, say, two, work

FIVE_SAID = [num(n) for n in range(5)] + [say(n) for n in range(5)]
# Three numbers with two registers: one leaves, and comes back once.
ONE_TOO_MANY = [num(5), num(6), num(7), say(0), say(1), say(2)]
# The same, said twice over: one has to come back ahead of three of the says.
SAID_TWICE = ONE_TOO_MANY + [say(0), say(1), say(2)]
# Of the three made of 0, two leave and come back, or one does, and 0 is made again in between.
ALL_OF_ONE = [num(5), two(0, 0, 0), two(0, 0, 0), two(0, 0, 0), say(1), say(2), say(3)]
# Value 1, which is no number, leaves twice.
LEAVES_TWICE = [
    num(5), two(0, 0, 0), num(6), num(7), two(0, 2, 3), say(1), num(8), num(9), two(0, 5, 6), say(1)]


class Least(unittest.TestCase):
    def check(self, k, prices, steps, price):
        self.assertEqual(last(work(k, *prices), *steps, least()), [price])

    def check_prices(self, k, steps, price):
        """price tells, of put, get and again, what is to be told; over the edges of each of them."""
        for prices in itertools.product((0, 1, 2, 3, 5, 8, 9), repeat=3):
            with self.subTest(prices=prices):
                self.check(k, prices, steps, price(*prices))


class NothingLeaves(Least):
    def test_no_steps(self):
        self.assertEqual(last(least()), [0])
        for k in (2, 3, 4):
            self.check(k, (9, 9, 9), [], 0)

    def test_one_value_at_a_time(self):
        self.check(2, (9, 9, 9), [num(5)], 0)
        self.check(2, (9, 9, 9), [num(5), say(0)] + [two(0, n, n) for n in range(8)], 0)

    def test_numbers_that_are_never_wanted(self):
        self.check(2, (9, 9, 9), [num(5)] * 10, 0)
        self.check(2, (9, 9, 9), [num(5)] + [num(6)] * 8 + [say(0)], 0)

    def test_two_values_in_two_registers(self):
        self.check(2, (9, 9, 9), [num(5), num(6), two(0, 0, 1), say(2)], 0)
        self.check(2, (9, 9, 9), [num(5), num(6), two(0, 0, 1), say(2), say(1)], 0)
        self.check(2, (9, 9, 9), [num(5), num(6), two(0, 0, 1), say(0), say(2)], 0)

    def test_as_many_as_there_are_registers(self):
        for k in (2, 3, 4):
            with self.subTest(k=k):
                self.check(k, (9, 9, 9), [num(n) for n in range(k)] + [say(n) for n in range(k)], 0)


class NewWork(Least):
    def test_two_registers_and_prices_of_1(self):
        self.assertEqual(last(*ONE_TOO_MANY, least()), [1])
        self.assertEqual(last(*LEAVES_TWICE, least()), [3])


class OneLeaves(Least):
    def test_a_number(self):
        self.check_prices(2, ONE_TOO_MANY, lambda put, get, again: min(again, put + get))

    def test_made_again(self):
        self.check(2, (3, 4, 5), ONE_TOO_MANY, 5)
        self.check(2, (9, 9, 0), ONE_TOO_MANY, 0)

    def test_put_away_and_got(self):
        self.check(2, (3, 4, 9), ONE_TOO_MANY, 7)
        self.check(2, (0, 0, 9), ONE_TOO_MANY, 0)

    def test_both_as_good(self):
        self.check(2, (3, 4, 7), ONE_TOO_MANY, 7)
        self.check(2, (9, 0, 9), ONE_TOO_MANY, 9)
        self.check(2, (0, 9, 9), ONE_TOO_MANY, 9)

    def test_one_that_is_no_number(self):
        steps = [num(5), two(0, 0, 0), two(0, 1, 1), two(0, 1, 1), say(1), say(2), say(3)]
        self.check_prices(2, steps, lambda put, get, again: put + get)
        steps = [num(5), two(0, 0, 0), num(6), num(7), two(0, 2, 3), two(0, 1, 4)]
        self.check_prices(2, steps, lambda put, get, again: put + get)

    def test_for_a_value_that_is_never_wanted(self):
        steps = [num(5), num(6), num(7), two(0, 0, 1)]
        self.check_prices(2, steps, lambda put, get, again: min(again, put + get))
        self.check(3, (9, 9, 9), steps, 0)

    def test_for_what_a_step_makes_of_two_that_are_wanted_still(self):
        steps = [num(5), num(6), two(0, 0, 1), two(0, 0, 1)]
        self.check_prices(2, steps, lambda put, get, again: min(again, put + get))
        self.check(3, (9, 9, 9), steps, 0)


class SeveralLeave(Least):
    def test_made_again_and_put_away_in_one_plan(self):
        self.check_prices(2, ALL_OF_ONE, lambda put, get, again: min(2 * put + 2 * get, again + put + get))
        self.check(2, (3, 4, 5), ALL_OF_ONE, 12)
        self.check(2, (3, 4, 7), ALL_OF_ONE, 14)
        self.check(2, (3, 4, 9), ALL_OF_ONE, 14)

    def test_numbers_each_in_the_cheapest_way(self):
        self.check_prices(2, SAID_TWICE, lambda put, get, again: min(
            3 * again, put + 2 * get + again, 2 * put + 3 * get))
        self.check(2, (3, 0, 2), SAID_TWICE, 5)

    def test_put_away_once_and_got_twice(self):
        self.check_prices(2, LEAVES_TWICE, lambda put, get, again: put + 2 * get)

    def test_with_each_number_of_registers(self):
        for k in (2, 3, 4):
            self.check_prices(k, FIVE_SAID, lambda put, get, again: (5 - k) * min(again, put + get))

    def test_with_more_registers_nothing_leaves(self):
        for steps in (ONE_TOO_MANY, SAID_TWICE, ALL_OF_ONE, LEAVES_TWICE):
            self.check(3, (9, 9, 9), steps, 0)
            self.check(4, (9, 9, 9), steps, 0)


class TenSteps(Least):
    MANY_WANTED = [num(n) for n in range(6)] + [two(0, 3, 2), two(0, 0, 1), two(0, 4, 2), two(0, 5, 3)]

    def test_many_wanted_at_the_end(self):
        # Of the last four steps' eight values one is there still with two registers, three with three, five with four.
        self.check(2, (9, 9, 1), self.MANY_WANTED, 7)
        self.check(3, (9, 9, 1), self.MANY_WANTED, 5)
        self.check(4, (9, 9, 1), self.MANY_WANTED, 3)

    def test_forty_times_in_one_list(self):
        for k, price in ((2, 7), (3, 5), (4, 3)):
            with self.subTest(k=k):
                told = ask(work(k, 9, 9, 1), *self.MANY_WANTED, *[least()] * 40)
                self.assertEqual(told[11:], [[price]] * 40)

    def test_in_a_list_of_forty_calls(self):
        told = ask(*FIVE_SAID, *[least()] * 30)
        self.assertEqual(told[10:], [[3]] * 30)
        self.assertEqual(answers(least() * 40), [1, 0] * 40)

    def test_as_steps_come(self):
        told = ask(*joined([[step, least()] for step in FIVE_SAID]))
        self.assertEqual(joined(told[1::2]), [0, 0, 0, 0, 0, 0, 1, 2, 3, 3])


if __name__ == "__main__":
    unittest.main()
