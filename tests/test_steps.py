"""Promise 2: num, two and say."""

import unittest

from calls import GREATEST, ask, last, num, say, shows, two, work

TEN = [num(n) for n in range(10)]
TEN_SHOWN = [2, 1, 1, 1, 10, 0, 0, 0, 1, 0, 2, 0, 3, 0, 4, 0, 5, 0, 6, 0, 7, 0, 8, 0, 9]


class Steps(unittest.TestCase):
    def check_refused(self, ahead, call, refusal):
        """The refusal is told, and what is shown is as it was."""
        told = ask(*ahead, shows(), call, shows())
        self.assertEqual(told[-2], [refusal])
        self.assertEqual(told[-1], told[-3])


class Operations(Steps):
    def test_each_that_there_is(self):
        for o in range(10):
            with self.subTest(o=o):
                self.assertEqual(
                    ask(num(5), two(o, 0, 0), shows()), [[1], [2], [2, 1, 1, 1, 2, 0, 5, 1, o, 0, 0]])

    def test_none_such(self):
        for o in (10, 11, GREATEST):
            with self.subTest(o=o):
                self.check_refused([num(5)], two(o, 0, 0), -4)


class Values(Steps):
    def test_two_with_given_ones(self):
        for a in range(3):
            for b in range(3):
                with self.subTest(a=a, b=b):
                    self.assertEqual(last(num(5), num(6), two(0, 0, 1), two(1, a, b)), [4])

    def test_two_with_one_not_given(self):
        ahead = [num(5), num(6)]
        for value in (2, 3, GREATEST):
            with self.subTest(value=value):
                self.check_refused(ahead, two(0, value, 0), -2)
                self.check_refused(ahead, two(0, 0, value), -2)
                self.check_refused(ahead, two(0, value, value), -2)

    def test_none_given_on_a_new_work(self):
        self.check_refused([], two(0, 0, 0), -2)
        self.check_refused([], say(0), -2)

    def test_two_does_not_use_what_it_gives(self):
        self.check_refused([num(5)], two(0, 0, 1), -2)
        self.check_refused([num(5)], two(0, 1, 0), -2)

    def test_say_with_given_ones(self):
        for a in range(3):
            with self.subTest(a=a):
                self.assertEqual(last(num(5), num(6), two(0, 0, 1), say(a)), [4])

    def test_say_with_one_not_given(self):
        for value in (2, 3, GREATEST):
            with self.subTest(value=value):
                self.check_refused([num(5), num(6)], say(value), -2)

    def test_say_gives_no_value(self):
        ahead = [num(5), say(0), say(0)]
        self.check_refused(ahead, say(1), -2)
        self.check_refused(ahead, two(0, 0, 1), -2)
        self.check_refused(ahead, two(0, 1, 0), -2)

    def test_values_are_numbered_past_a_say(self):
        self.assertEqual(ask(num(5), say(0), num(6), say(1), two(0, 0, 1), say(2)), [[n] for n in range(1, 7)])

    def test_a_refused_step_gives_no_value(self):
        self.check_refused([num(5), two(10, 0, 0), two(0, 0, 1)], say(1), -2)

    def test_the_same_value_again(self):
        self.assertEqual(ask(num(5), say(0), say(0), two(0, 0, 0), say(0)), [[1], [2], [3], [4], [5]])


class TenSteps(Steps):
    def test_the_tenth_is_taken(self):
        for call in (num(5), two(0, 8, 0), say(8)):
            with self.subTest(call=call):
                self.assertEqual(last(*TEN[:9], call), [10])

    def test_the_eleventh_is_refused(self):
        for call in (num(5), two(9, 9, 0), say(9)):
            with self.subTest(call=call):
                self.check_refused(TEN, call, -1)
                self.assertEqual(last(*TEN, call, shows()), TEN_SHOWN)

    def test_says_and_twos_are_steps_too(self):
        self.check_refused([num(5)] + [say(0)] * 9, num(6), -1)
        self.check_refused([num(5)] + [two(0, 0, 0)] * 9, say(9), -1)

    def test_refused_calls_are_no_steps(self):
        self.assertEqual(last(*[say(0)] * 12, *TEN[:9], say(9), num(1)), [10])

    def test_refused_again_and_again(self):
        self.assertEqual(ask(*TEN, num(5), num(5), shows())[-3:], [[-1], [-1], TEN_SHOWN])


class OfSeveralRefusals(Steps):
    def test_two_with_all_three(self):
        for wrong in ((10, 0), (0, 10), (10, 10), (GREATEST, GREATEST)):
            with self.subTest(wrong=wrong):
                self.check_refused(TEN, two(10, *wrong), -4)
                self.check_refused(TEN, two(GREATEST, *wrong), -4)

    def test_two_with_no_operation_and_ten_steps(self):
        self.check_refused(TEN, two(10, 0, 0), -4)

    def test_two_with_no_operation_and_a_value_not_given(self):
        self.check_refused([], two(10, 0, 0), -4)
        self.check_refused([num(5)], two(10, 0, 1), -4)

    def test_two_with_a_value_not_given_and_ten_steps(self):
        self.check_refused(TEN, two(0, 10, 0), -2)
        self.check_refused(TEN, two(0, 0, 10), -2)

    def test_say_with_a_value_not_given_and_ten_steps(self):
        self.check_refused(TEN, say(10), -2)
        self.check_refused([num(5)] + [say(0)] * 9, say(1), -2)

    def test_prices_and_registers_stay(self):
        for call in (two(10, 0, 0), two(0, 1, 0), say(1)):
            with self.subTest(call=call):
                self.assertEqual(last(work(4, 7, 8, 9), num(5), call, shows()), [4, 7, 8, 9, 1, 0, 5])


if __name__ == "__main__":
    unittest.main()
