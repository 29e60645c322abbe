"""Promise 1: work."""

import unittest

from calls import GREATEST, ask, last, num, say, shows, two, work

SOME_STEPS = [num(5), two(0, 0, 0), say(1)]
SHOWN_STEPS = [3, 0, 5, 1, 0, 0, 0, 2, 1]


def with_price(place, price):
    prices = [1, 2, 3]
    prices[place] = price
    return prices


class Taken(unittest.TestCase):
    def check(self, k, prices):
        told = ask(*SOME_STEPS, work(k, *prices), shows())
        self.assertEqual(told[-2:], [[k], [k] + prices + [0]])

    def test_registers(self):
        for k in (2, 3, 4):
            with self.subTest(k=k):
                self.check(k, [4, 5, 6])

    def test_each_price(self):
        for place in range(3):
            for price in range(10):
                with self.subTest(place=place, price=price):
                    self.check(3, with_price(place, price))

    def test_all_prices_at_their_edges(self):
        self.check(2, [0, 0, 0])
        self.check(4, [9, 9, 9])

    def test_values_are_gone_with_the_steps(self):
        self.assertEqual(last(*SOME_STEPS, work(2, 1, 1, 1), say(0)), [-2])
        self.assertEqual(last(*SOME_STEPS, work(2, 1, 1, 1), two(0, 0, 0)), [-2])

    def test_ten_steps_make_room(self):
        told = ask(*[num(1)] * 10, work(4, 0, 9, 0), num(2), shows())
        self.assertEqual(told[-3:], [[4], [1], [4, 0, 9, 0, 1, 0, 2]])

    def test_twice(self):
        self.assertEqual(
            ask(work(4, 9, 8, 7), work(2, 0, 1, 2), shows()), [[4], [2], [2, 0, 1, 2, 0]])


class Refused(unittest.TestCase):
    def check(self, k, prices):
        told = ask(work(k, *prices), shows())
        self.assertEqual(told, [[-1], [2, 1, 1, 1, 0]])
        told = ask(work(4, 7, 8, 9), *SOME_STEPS, work(k, *prices), shows(), say(1))
        self.assertEqual(told[-3:], [[-1], [4, 7, 8, 9] + SHOWN_STEPS, [4]])

    def test_registers(self):
        for k in (0, 1, 5, 6, GREATEST):
            with self.subTest(k=k):
                self.check(k, [1, 2, 3])

    def test_each_price(self):
        for place in range(3):
            for price in (10, 11, GREATEST):
                with self.subTest(place=place, price=price):
                    self.check(3, with_price(place, price))

    def test_all_at_once(self):
        self.check(0, [10, 10, 10])
        self.check(GREATEST, [GREATEST] * 3)


if __name__ == "__main__":
    unittest.main()
