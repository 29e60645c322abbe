"""most: the most values that are there at once."""

import unittest

from calls import ask, last, most, num, say, two, work


class Most(unittest.TestCase):
    def check(self, steps, told):
        self.assertEqual(last(*steps, most()), [told])

    def test_no_steps(self):
        self.check([], 0)

    def test_given_and_never_wanted(self):
        self.check([num(5)], 1)
        self.check([num(5)] * 10, 1)

    def test_given_and_never_wanted_beside_one_that_is(self):
        self.check([num(5), num(6), say(0)], 2)
        self.check([num(5), num(6), num(7), say(0), say(1)], 3)

    def test_wanted_by_one_step(self):
        self.check([num(5), say(0)], 1)
        self.check([num(5), num(6), two(0, 0, 1)], 2)
        self.check([num(5), num(6), say(0), say(1)], 2)

    def test_wanted_by_both_sides_of_one_step(self):
        self.check([num(5), two(0, 0, 0)], 1)
        self.check([num(5), num(6), two(0, 0, 0)], 2)
        self.check([num(5), num(6), two(0, 0, 0), say(1)], 2)

    def test_wanted_by_one_side_each(self):
        self.check([num(5), num(6), num(7), two(0, 2, 0)], 2)
        self.check([num(5), num(6), num(7), two(0, 0, 2)], 2)

    def test_wanted_by_the_next_step_alone(self):
        self.check([num(5), two(0, 0, 0), two(0, 1, 1), two(0, 2, 2)], 1)

    def test_wanted_again_and_again(self):
        self.check([num(5), two(0, 0, 0), two(0, 0, 1), two(0, 0, 2)], 2)

    def test_what_the_step_uses_last_is_not_there_behind_it(self):
        self.check([num(5), num(6), two(0, 0, 1), num(7), say(2)], 2)

    def test_in_the_midst(self):
        self.check([num(5), two(0, 0, 0), two(0, 0, 0), two(0, 0, 1), two(0, 2, 3)], 3)

    def test_at_the_end(self):
        self.check([num(1), num(2), say(0), num(3), num(4), two(0, 1, 2), two(0, 3, 4)], 3)

    def test_behind_a_say(self):
        self.check([num(1), say(0), num(2), say(1)], 1)
        self.check([num(1), say(0), num(2), say(1), say(0)], 2)

    def test_many_wanted_at_the_end(self):
        self.check([num(n) for n in range(5)] + [say(n) for n in range(5)], 5)
        self.check([num(n) for n in range(6)] + [two(0, 0, 1), two(0, 2, 3), two(0, 4, 5), say(0)], 6)
        self.check([num(n) for n in range(7)] + [two(0, 0, 1), two(0, 2, 3), two(0, 4, 5)], 7)

    def test_whatever_the_registers(self):
        steps = [num(n) for n in range(5)] + [say(n) for n in range(5)]
        for k in (2, 3, 4):
            with self.subTest(k=k):
                self.check([work(k, 0, 9, 0)] + steps, 5)

    def test_as_steps_come(self):
        self.assertEqual(
            ask(most(), num(5), most(), num(6), most(), say(0), most(), say(0), most(), work(3, 1, 1, 1), most()),
            [[0], [1], [1], [2], [1], [3], [2], [4], [2], [3], [0]])


if __name__ == "__main__":
    unittest.main()
