"""The interface: one list in, one list out, and nothing else."""

import contextlib
import io
import unittest

from calls import GREATEST, ask, far, joined, judge, least, most, num, say, says, shows, two, work
from putaway.work import answers
import putaway.work


class Unchangeable(list):
    """A list that fails as soon as it is changed, if only for a while."""

    def refuse(self, *args, **named):
        raise AssertionError("what was handed in was changed")

    append = extend = insert = pop = remove = clear = sort = reverse = refuse
    __setitem__ = __delitem__ = __iadd__ = __imul__ = refuse


MANY = joined([
    work(3, 9, 0, 9), num(GREATEST), two(9, 0, 0), say(1), shows(), two(10, 0, 0), say(2), work(5, 0, 0, 0), shows(),
    work(2, 0, 1, 2), shows(), num(1), shows()])

# Value 1 is put away and got by the plans that far and judge tell of.
ASKED = [says(), most(), least(), far(), judge((4, 0)), judge([6, 0]), judge([4] * 240)]
SHORT_OF_ONE = [work(2, 3, 4, 9), num(5), num(6), num(7), say(0), two(9, 1, 1), say(3)]
PLAN = [(4, 0), (4, 0), (0, 1), (5, 1), (4, 0), (2, 2), (1, 1), (5, 1), (4, 0)]
OF_ASKED = [[2, 5, 1], [3], [7], [7, 9] + joined(PLAN), [0, 1], [-1], [-1]]
EVERY_SORT = SHORT_OF_ONE + ASKED + [judge(*PLAN), shows(), judge()]
OF_EVERY_SORT = [[2], [1], [2], [3], [4], [5], [6]] + OF_ASKED + [
    [1, 7, 2, 5, 1], [2, 3, 4, 9, 6, 0, 5, 0, 6, 0, 7, 2, 0, 1, 9, 1, 1, 2, 3], [0, 0]]


class Form(unittest.TestCase):
    def test_by_its_full_name(self):
        self.assertEqual(putaway.work.answers([4]), [5, 2, 1, 1, 1, 0])

    def test_how_many_then_these(self):
        self.assertEqual(
            answers(MANY),
            [1, 3, 1, 1, 1, 2, 1, 3,
             13, 3, 9, 0, 9, 3, 0, GREATEST, 1, 9, 0, 0, 2, 1,
             1, -4, 1, -2, 1, -1,
             13, 3, 9, 0, 9, 3, 0, GREATEST, 1, 9, 0, 0, 2, 1,
             1, 2, 5, 2, 0, 1, 2, 0, 1, 1, 7, 2, 0, 1, 2, 1, 0, 1])

    def test_a_refusal_is_its_number_alone(self):
        self.assertEqual(answers(work(1, 1, 1, 1)), [1, -1])
        self.assertEqual(answers(two(10, 0, 0)), [1, -4])
        self.assertEqual(answers(two(0, 0, 0)), [1, -2])
        self.assertEqual(answers(say(0)), [1, -2])
        self.assertEqual(answers(num(0) * 11)[-2:], answers(work(0, 0, 0, 0)))

    def test_a_refused_call_is_read_whole(self):
        self.assertEqual(
            answers(work(4, 4, 4, 10) + two(4, 4, 4) + say(4) + shows()), [1, -1, 1, -2, 1, -2, 5, 2, 1, 1, 1, 0])

    def test_each_of_the_calls_that_ask(self):
        self.assertEqual(answers(says()), [1, 0])
        self.assertEqual(answers(most()), [1, 0])
        self.assertEqual(answers(least()), [1, 0])
        self.assertEqual(answers(far()), [2, 0, 0])
        self.assertEqual(answers(judge()), [3, 1, 0, 0])
        self.assertEqual(answers(judge((4, 0))), [2, 0, 0])
        self.assertEqual(answers(judge([6, 0])), [1, -1])
        self.assertEqual(answers(num(7) + say(0) + says() + far()), [1, 1, 1, 2, 2, 1, 7, 6, 0, 2, 4, 0, 4, 0])

    def test_a_plan_is_read_whole(self):
        for count in (0, 1, 2, 3, 199, 200, 201, 202, 239, 240):
            with self.subTest(count=count):
                told = answers(num(7) + [9, count] + [4] * count + shows())
                self.assertEqual(told, [1, 1] + ([1, -1] if count else [2, 0, 0]) + [7, 2, 1, 1, 1, 1, 0, 7])

    def test_every_sort(self):
        self.assertEqual(ask(*EVERY_SORT), OF_EVERY_SORT)

    def test_kinds(self):
        told = answers(MANY + joined(EVERY_SORT))
        self.assertIs(type(told), list)
        self.assertEqual({type(number) for number in told}, {int})


class Asking(unittest.TestCase):
    def test_changes_nothing(self):
        for call in ASKED + [judge(*PLAN)]:
            with self.subTest(call=call):
                told = ask(*SHORT_OF_ONE, shows(), call, call, shows(), say(3))
                self.assertEqual(told[-2], [2, 3, 4, 9, 6, 0, 5, 0, 6, 0, 7, 2, 0, 1, 9, 1, 1, 2, 3])
                self.assertEqual(told[-5], told[-2])
                self.assertEqual(told[-4], told[-3])
                self.assertEqual(told[-1], [7])

    def test_changes_nothing_on_a_new_work(self):
        for call in ASKED:
            with self.subTest(call=call):
                self.assertEqual(ask(call, shows())[1], [2, 1, 1, 1, 0])

    def test_in_any_order(self):
        told = ask(*SHORT_OF_ONE, *ASKED, *reversed(ASKED))
        self.assertEqual(told[7:], OF_ASKED + OF_ASKED[::-1])

    def test_of_the_work_as_it_is_by_then(self):
        told = ask(*SHORT_OF_ONE, *ASKED[:4], work(4, 9, 9, 9), *ASKED[:4], *SHORT_OF_ONE[1:], *ASKED[:4])
        self.assertEqual(told[7:11], OF_ASKED[:4])
        self.assertEqual(told[12:16], [[0], [0], [0], [0, 0]])
        self.assertEqual(told[22:], [[2, 5, 1], [3], [0], [0, 6] + [4, 0] * 6])


class HandedIn(unittest.TestCase):
    def test_is_the_same_behind_the_call(self):
        for handed in (MANY, joined(EVERY_SORT)):
            calls = list(handed)
            answers(calls)
            self.assertEqual(calls, handed)

    def test_is_not_changed_for_a_while_either(self):
        for handed in (MANY, joined(EVERY_SORT)):
            self.assertEqual(answers(Unchangeable(handed)), answers(handed))

    def test_the_answer_is_a_list_of_its_own(self):
        calls = shows()
        told = answers(calls)
        told.clear()
        self.assertEqual(calls, [4])
        self.assertEqual(answers(calls), [5, 2, 1, 1, 1, 0])


class NothingKept(unittest.TestCase):
    def test_the_second_time_is_like_the_first(self):
        for handed in (MANY, joined(EVERY_SORT)):
            first = answers(handed)
            self.assertEqual(answers(handed), first)

    def test_each_time_on_a_new_work(self):
        answers(work(4, 9, 9, 9) + num(5) + say(0) + judge((4, 0), (0, 0)) + far() + least())
        self.assertEqual(answers(shows()), [5, 2, 1, 1, 1, 0])
        self.assertEqual(answers(far()), [2, 0, 0])
        self.assertEqual(answers(judge((2, 0))), [2, 0, 0])
        self.assertEqual(answers(say(0)), [1, -2])

    def test_nothing_is_printed(self):
        out, err = io.StringIO(), io.StringIO()
        with contextlib.redirect_stdout(out), contextlib.redirect_stderr(err):
            answers(MANY)
            answers(joined(EVERY_SORT))
        self.assertEqual(out.getvalue() + err.getvalue(), "")


class FortyCalls(unittest.TestCase):
    def test_of_shows(self):
        self.assertEqual(answers(shows() * 40), [5, 2, 1, 1, 1, 0] * 40)

    def test_of_numbers(self):
        taken = joined([[1, n] for n in range(1, 11)])
        self.assertEqual(answers(num(GREATEST) * 40), taken + [1, -1] * 30)

    def test_of_all_sorts(self):
        """Two times every sort, and six that ask behind them."""
        calls = EVERY_SORT * 2 + ASKED[:6]
        self.assertEqual(len(calls), 40)
        self.assertEqual(ask(*calls), OF_EVERY_SORT * 2 + OF_ASKED[:6])

    def test_of_the_longest_plans(self):
        self.assertEqual(answers(([9, 240] + [4, 0] * 120) * 40), [1, -1] * 40)
        self.assertEqual(answers(([9, 200] + [0, 0] * 100) * 40), [2, 0, 0] * 40)

    def test_of_work_and_steps_and_shows(self):
        calls = (work(3, 2, 1, 0) + num(6) + two(3, 0, 0) + say(1) + shows()) * 8
        shown = [13, 3, 2, 1, 0, 3, 0, 6, 1, 3, 0, 0, 2, 1]
        self.assertEqual(answers(calls), ([1, 3, 1, 1, 1, 2, 1, 3] + shown) * 8)

    def test_the_last_shows_ten_steps(self):
        calls = num(1) + two(0, 0, 0) * 20 + work(9, 9, 9, 9) * 18 + shows()
        taken = joined([[1, n] for n in range(1, 11)])
        shown = [2, 1, 1, 1, 10, 0, 1] + [1, 0, 0, 0] * 9
        self.assertEqual(answers(calls), taken + [1, -1] * 29 + [len(shown)] + shown)


if __name__ == "__main__":
    unittest.main()
