"""The interface: one list in, one list out, and nothing else."""

import contextlib
import io
import unittest

from calls import GREATEST, joined, num, say, shows, two, work
from putaway.work import answers
import putaway.work


class Unchangeable(list):
    """A list that fails as soon as it is changed, if only for a while."""

    def refuse(self, *args, **named):
        raise AssertionError("what was handed in was changed")

    append = extend = insert = pop = remove = clear = sort = reverse = refuse
    __setitem__ = __delitem__ = __iadd__ = __imul__ = refuse


MANY = joined([
    work(3, 9, 0, 9), num(GREATEST), two(9, 0, 0), say(1), shows(), two(10, 0, 0), say(2), work(5, 0, 0, 0), shows(),
    work(2, 0, 1, 2), shows(), num(1), shows()])


class Form(unittest.TestCase):
    def test_by_its_full_name(self):
        self.assertEqual(putaway.work.answers([4]), [5, 2, 1, 1, 1, 0])

    def test_how_many_then_these(self):
        self.assertEqual(
            answers(MANY),
            [1, 3, 1, 1, 1, 2, 1, 3,
             13, 3, 9, 0, 9, 3, 0, GREATEST, 1, 9, 0, 0, 2, 1,
             1, -4, 1, -2, 1, -1,
             13, 3, 9, 0, 9, 3, 0, GREATEST, 1, 9, 0, 0, 2, 1,
             1, 2, 5, 2, 0, 1, 2, 0, 1, 1, 7, 2, 0, 1, 2, 1, 0, 1])

    def test_a_refusal_is_its_number_alone(self):
        self.assertEqual(answers(work(1, 1, 1, 1)), [1, -1])
        self.assertEqual(answers(two(10, 0, 0)), [1, -4])
        self.assertEqual(answers(two(0, 0, 0)), [1, -2])
        self.assertEqual(answers(say(0)), [1, -2])
        self.assertEqual(answers(num(0) * 11)[-2:], answers(work(0, 0, 0, 0)))

    def test_a_refused_call_is_read_whole(self):
        self.assertEqual(
            answers(work(4, 4, 4, 10) + two(4, 4, 4) + say(4) + shows()), [1, -1, 1, -2, 1, -2, 5, 2, 1, 1, 1, 0])

    def test_kinds(self):
        told = answers(MANY)
        self.assertIs(type(told), list)
        self.assertEqual({type(number) for number in told}, {int})


class HandedIn(unittest.TestCase):
    def test_is_the_same_behind_the_call(self):
        calls = list(MANY)
        answers(calls)
        self.assertEqual(calls, MANY)

    def test_is_not_changed_for_a_while_either(self):
        self.assertEqual(answers(Unchangeable(MANY)), answers(MANY))

    def test_the_answer_is_a_list_of_its_own(self):
        calls = shows()
        told = answers(calls)
        told.clear()
        self.assertEqual(calls, [4])
        self.assertEqual(answers(calls), [5, 2, 1, 1, 1, 0])


class NothingKept(unittest.TestCase):
    def test_the_second_time_is_like_the_first(self):
        first = answers(MANY)
        self.assertEqual(answers(MANY), first)

    def test_each_time_on_a_new_work(self):
        answers(work(4, 9, 9, 9) + num(5) + say(0))
        self.assertEqual(answers(shows()), [5, 2, 1, 1, 1, 0])
        self.assertEqual(answers(say(0)), [1, -2])

    def test_nothing_is_printed(self):
        out, err = io.StringIO(), io.StringIO()
        with contextlib.redirect_stdout(out), contextlib.redirect_stderr(err):
            answers(MANY)
        self.assertEqual(out.getvalue() + err.getvalue(), "")


class FortyCalls(unittest.TestCase):
    def test_of_shows(self):
        self.assertEqual(answers(shows() * 40), [5, 2, 1, 1, 1, 0] * 40)

    def test_of_numbers(self):
        taken = joined([[1, n] for n in range(1, 11)])
        self.assertEqual(answers(num(GREATEST) * 40), taken + [1, -1] * 30)

    def test_of_every_sort(self):
        calls = (work(3, 2, 1, 0) + num(6) + two(3, 0, 0) + say(1) + shows()) * 8
        shown = [13, 3, 2, 1, 0, 3, 0, 6, 1, 3, 0, 0, 2, 1]
        self.assertEqual(answers(calls), ([1, 3, 1, 1, 1, 2, 1, 3] + shown) * 8)

    def test_the_last_shows_ten_steps(self):
        calls = num(1) + two(0, 0, 0) * 20 + work(9, 9, 9, 9) * 18 + shows()
        taken = joined([[1, n] for n in range(1, 11)])
        shown = [2, 1, 1, 1, 10, 0, 1] + [1, 0, 0, 0] * 9
        self.assertEqual(answers(calls), taken + [1, -1] * 29 + [len(shown)] + shown)


if __name__ == "__main__":
    unittest.main()
