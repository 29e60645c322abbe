"""What a new work is, and how shows tells the steps."""

import unittest

from calls import GREATEST, ask, last, num, say, shows, two, work


class Shows(unittest.TestCase):
    def test_new(self):
        self.assertEqual(last(shows()), [2, 1, 1, 1, 0])

    def test_prices_stand_in_their_order(self):
        self.assertEqual(last(work(3, 4, 5, 6), shows()), [3, 4, 5, 6, 0])

    def test_behind_a_number(self):
        self.assertEqual(last(num(7), shows()), [2, 1, 1, 1, 1, 0, 7])

    def test_behind_the_edges_of_a_word(self):
        self.assertEqual(last(num(0), num(GREATEST), shows()), [2, 1, 1, 1, 2, 0, 0, 0, GREATEST])

    def test_behind_two(self):
        self.assertEqual(
            last(num(7), num(8), two(6, 1, 0), shows()), [2, 1, 1, 1, 3, 0, 7, 0, 8, 1, 6, 1, 0])

    def test_behind_say(self):
        self.assertEqual(last(num(7), say(0), shows()), [2, 1, 1, 1, 2, 0, 7, 2, 0])

    def test_behind_several(self):
        told = last(
            work(4, 9, 0, 3), num(5), say(0), num(6), two(9, 0, 1), say(2), two(0, 2, 2), say(3), shows())
        self.assertEqual(
            told, [4, 9, 0, 3, 7, 0, 5, 2, 0, 0, 6, 1, 9, 0, 1, 2, 2, 1, 0, 2, 2, 2, 3])

    def test_after_each_step(self):
        told = ask(shows(), num(1), shows(), two(2, 0, 0), shows(), say(1), shows())
        self.assertEqual(told, [
            [2, 1, 1, 1, 0],
            [1], [2, 1, 1, 1, 1, 0, 1],
            [2], [2, 1, 1, 1, 2, 0, 1, 1, 2, 0, 0],
            [3], [2, 1, 1, 1, 3, 0, 1, 1, 2, 0, 0, 2, 1]])

    def test_shows_changes_nothing(self):
        told = ask(num(3), shows(), shows(), num(4), shows())
        self.assertEqual(told[1], told[2])
        self.assertEqual(told[4], [2, 1, 1, 1, 2, 0, 3, 0, 4])


if __name__ == "__main__":
    unittest.main()
