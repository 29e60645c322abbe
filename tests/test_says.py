"""says: the words that the operations make, and those that the work says."""

import unittest

from calls import GREATEST, ask, last, num, say, says, two, work

HALF = 2147483648
EDGES = (0, 1, 2, 31, 32, 33, 63, 64, 65, HALF - 1, HALF, HALF + 1, GREATEST - 1, GREATEST)


def word_of(o, first, second):
    told = last(num(first), num(second), two(o, 0, 1), say(2), says())
    if len(told) != 2 or told[0] != 1:
        raise AssertionError(f"one word is to be said: {told}")
    return told[1]


def bit_by_bit(first, second, bit):
    """What bit makes of each two bits, greatest first."""
    pairs = zip(f"{first:032b}", f"{second:032b}")
    return int("".join(bit(one, other) for one, other in pairs), 2)


def doubled(first, second):
    for _ in range(second % 32):
        first = (first + first) % (GREATEST + 1)
    return first


def halved(first, second):
    for _ in range(second % 32):
        first = (first - first % 2) // 2
    return first


class Operations(unittest.TestCase):
    def check(self, o, rows):
        for first, second, word in rows:
            with self.subTest(first=first, second=second):
                self.assertEqual(word_of(o, first, second), word)

    def check_edges(self, o, make):
        self.check(o, [(first, second, make(first, second)) for first in EDGES for second in EDGES])

    def test_sum(self):
        self.check(0, [
            (0, 0, 0), (1, 0, 1), (31, 1, 32), (32, 33, 65), (GREATEST, 0, GREATEST), (0, GREATEST, GREATEST),
            (GREATEST, 1, 0), (1, GREATEST, 0), (GREATEST, 33, 32), (GREATEST, GREATEST, GREATEST - 1),
            (HALF, HALF, 0)])

    def test_difference(self):
        self.check(1, [
            (0, 0, 0), (1, 0, 1), (33, 32, 1), (GREATEST, 0, GREATEST), (GREATEST, GREATEST, 0),
            (0, 1, GREATEST), (31, 32, GREATEST), (31, 33, GREATEST - 1), (0, GREATEST, 1), (1, GREATEST, 2),
            (0, HALF, HALF), (GREATEST, 1, GREATEST - 1)])

    def test_product(self):
        self.check(2, [
            (0, 0, 0), (1, 1, 1), (0, GREATEST, 0), (1, GREATEST, GREATEST), (31, 33, 1023), (32, 32, 1024),
            (GREATEST, 2, GREATEST - 1), (2, HALF, 0), (3, HALF, HALF), (GREATEST, GREATEST, 1), (65536, 65536, 0),
            (65537, 65537, 131073), (GREATEST, 32, 4294967264)])

    def test_and(self):
        self.check(3, [
            (0, 0, 0), (1, 0, 0), (0, 1, 0), (1, 1, 1), (31, 32, 0), (32, 33, 32), (31, 33, 1),
            (GREATEST, 31, 31), (GREATEST, GREATEST, GREATEST), (12, 10, 8)])
        self.check_edges(3, lambda x, y: bit_by_bit(x, y, lambda b, c: "1" if b + c == "11" else "0"))

    def test_or(self):
        self.check(4, [
            (0, 0, 0), (1, 0, 1), (0, 1, 1), (1, 1, 1), (31, 32, 63), (32, 33, 33), (31, 33, 63),
            (GREATEST, 31, GREATEST), (0, GREATEST, GREATEST), (12, 10, 14)])
        self.check_edges(4, lambda x, y: bit_by_bit(x, y, lambda b, c: "0" if b + c == "00" else "1"))

    def test_exclusive_or(self):
        self.check(5, [
            (0, 0, 0), (1, 0, 1), (0, 1, 1), (1, 1, 0), (31, 32, 63), (32, 33, 1), (31, 33, 62),
            (GREATEST, 31, 4294967264), (GREATEST, GREATEST, 0), (12, 10, 6)])
        self.check_edges(5, lambda x, y: bit_by_bit(x, y, lambda b, c: "0" if b == c else "1"))

    def test_times_a_power(self):
        self.check(6, [
            (0, 31, 0), (1, 0, 1), (1, 1, 2), (1, 31, HALF), (1, 32, 1), (1, 33, 2), (1, 64, 1), (3, 31, HALF),
            (1, GREATEST, HALF), (GREATEST, 0, GREATEST), (GREATEST, 1, GREATEST - 1), (GREATEST, 31, HALF),
            (GREATEST, 32, GREATEST), (GREATEST, 33, GREATEST - 1), (HALF, 1, 0), (31, 33, 62)])
        self.check_edges(6, doubled)

    def test_divided_by_a_power(self):
        self.check(7, [
            (0, 31, 0), (1, 0, 1), (1, 1, 0), (31, 1, 15), (33, 1, 16), (33, 32, 33), (33, 33, 16), (32, 64, 32),
            (GREATEST, 0, GREATEST), (GREATEST, 1, HALF - 1), (GREATEST, 31, 1), (GREATEST, 32, GREATEST),
            (GREATEST, 33, HALF - 1), (GREATEST, GREATEST, 1), (HALF - 1, 31, 0), (HALF, 31, 1)])
        self.check_edges(7, halved)

    def test_less(self):
        self.check(8, [
            (0, 0, 0), (0, 1, 1), (1, 0, 0), (31, 32, 1), (32, 32, 0), (33, 32, 0), (0, GREATEST, 1),
            (GREATEST, 0, 0), (GREATEST, GREATEST, 0), (GREATEST - 1, GREATEST, 1), (HALF, HALF - 1, 0)])
        self.check_edges(8, lambda x, y: 1 if EDGES.index(x) < EDGES.index(y) else 0)

    def test_same(self):
        self.check(9, [
            (0, 0, 1), (0, 1, 0), (1, 0, 0), (31, 32, 0), (32, 32, 1), (33, 32, 0), (0, GREATEST, 0),
            (GREATEST, GREATEST, 1), (GREATEST - 1, GREATEST, 0)])
        self.check_edges(9, lambda x, y: 1 if EDGES.index(x) == EDGES.index(y) else 0)

    def test_sums_differences_and_products_at_their_edges(self):
        self.check_edges(0, lambda x, y: int(f"{x + y:064b}"[-32:], 2))
        self.check_edges(1, lambda x, y: x - y if x >= y else GREATEST - (y - x) + 1)
        self.check_edges(2, lambda x, y: int(f"{x * y:064b}"[-32:], 2))

    def test_with_one_value_on_both_sides(self):
        words = [last(num(33), two(o, 0, 0), say(1), says())[1] for o in range(10)]
        self.assertEqual(words, [66, 0, 1089, 33, 33, 0, 66, 16, 0, 1])


class Said(unittest.TestCase):
    def test_nothing_without_steps(self):
        self.assertEqual(last(says()), [0])

    def test_nothing_without_a_say(self):
        self.assertEqual(last(num(5), two(0, 0, 0), says()), [0])

    def test_a_number(self):
        for n in (0, 1, GREATEST):
            with self.subTest(n=n):
                self.assertEqual(last(num(n), say(0), says()), [1, n])

    def test_the_same_value_twice(self):
        self.assertEqual(last(num(7), say(0), say(0), says()), [2, 7, 7])

    def test_in_the_order_of_the_steps(self):
        self.assertEqual(last(num(7), num(8), num(9), say(2), say(0), say(1), says()), [3, 9, 7, 8])

    def test_a_say_gives_no_value(self):
        self.assertEqual(last(num(7), say(0), num(8), say(1), two(1, 1, 0), say(2), says()), [3, 7, 8, 1])

    def test_what_is_made_of_what_is_made(self):
        self.assertEqual(
            last(num(3), two(2, 0, 0), two(2, 1, 1), two(1, 0, 2), say(3), say(2), says()), [2, GREATEST - 77, 81])

    def test_ten_steps(self):
        self.assertEqual(last(num(1), *[say(0)] * 9, says()), [9] + [1] * 9)
        self.assertEqual(
            last(num(2), *[two(2, n, n) for n in range(6)], say(4), say(5), say(6), says()), [3, 65536, 0, 0])

    def test_whatever_the_registers_and_prices(self):
        for k in (2, 3, 4):
            with self.subTest(k=k):
                self.assertEqual(
                    last(work(k, 9, 0, 9), num(1), num(2), num(3), num(4), num(5), say(0), say(4), says()), [2, 1, 5])

    def test_as_steps_come(self):
        told = ask(says(), num(6), says(), say(0), says(), say(0), says(), work(2, 1, 1, 1), says())
        self.assertEqual(told, [[0], [1], [0], [2], [1, 6], [3], [2, 6, 6], [2], [0]])

    def test_a_refused_step_says_nothing(self):
        self.assertEqual(last(num(6), say(1), two(10, 0, 0), say(0), says()), [1, 6])


if __name__ == "__main__":
    unittest.main()
