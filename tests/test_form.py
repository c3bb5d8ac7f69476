"""The form in which calls are handed in and answers given back."""

import contextlib
import inspect
import io
import unittest

from groupqueue.runs import answers
from tests.lines import begins, cancel, ended, flat, group, members, stand, submit, why

LINE = flat([begins(2), group(1, 2, 2, 1), submit(0, 1), submit(0), submit(1), submit(1), submit(4), ended(0, 0),
             ended(9), group(0), begins(9), submit(0), stand(), why(4), why(3), members(1), members(2), cancel(1),
             cancel(1), cancel(4), cancel(4), cancel(5), stand(), members(0), ended(1)])


def refuse(calls, *numbers):
    raise AssertionError("what is handed in was changed")


class NeverChanged(list):
    """A list that fails when it is changed, even if it would be changed back."""

    append = extend = insert = pop = remove = clear = reverse = sort = refuse
    __setitem__ = __delitem__ = __iadd__ = __imul__ = refuse


class Form(unittest.TestCase):
    def test_how_many_stands_ahead_of_each_answer(self):
        self.assertEqual(answers([0, 2]), [1, 0])
        self.assertEqual(answers([1, 0, 1, 1, 0]), [1, 0])
        self.assertEqual(answers([2, 1]), [5, 0, 0, 1, 0, 0])
        self.assertEqual(answers([2, 1, 3, 0, 1]), [5, 0, 0, 1, 0, 0, 2, 3, 0])
        self.assertEqual(answers([2, 1, 4, 0]), [5, 0, 0, 1, 0, 0, 2, 2, 0])
        self.assertEqual(answers([5]), [1, 0])
        self.assertEqual(answers([2, 1, 5]), [5, 0, 0, 1, 0, 0, 2, 1, 1])
        self.assertEqual(answers([2, 1, 2, 1, 6, 1]), [5, 0, 0, 1, 0, 0, 4, 1, 0, 0, 0, 4, 1, 0, 1, 0])
        self.assertEqual(answers([7, 0]), [1, 0])
        self.assertEqual(answers([2, 1, 7, 0]), [5, 0, 0, 1, 0, 0, 3, 1, 0, 1])

    def test_how_many_stands_ahead_of_a_refusal(self):
        self.assertEqual(answers([0, 0]), [1, -1])
        self.assertEqual(answers([1, 1, 1, 1, 0]), [1, -2])
        self.assertEqual(answers([1, 0, 0, 1, 0]), [1, -1])
        self.assertEqual(answers([2, 0]), [1, -1])
        self.assertEqual(answers([3, 0, 1]), [1, -2])
        self.assertEqual(answers([2, 1, 1, 0, 1, 1, 0]), [5, 0, 0, 1, 0, 0, 1, -3])
        self.assertEqual(answers([2, 1, 3, 0, 1, 3, 0, 1]), [5, 0, 0, 1, 0, 0, 2, 3, 0, 1, -5])
        self.assertEqual(answers([2, 1] * 51)[-2:], [1, -7])
        self.assertEqual(answers([4, 0]), [1, -2])
        self.assertEqual(answers([2, 1, 4, 0, 4, 0]), [5, 0, 0, 1, 0, 0, 2, 2, 0, 1, -4])
        self.assertEqual(answers([2, 1, 3, 0, 1, 4, 0]), [5, 0, 0, 1, 0, 0, 2, 3, 0, 1, -5])
        self.assertEqual(answers([6, 0]), [1, -2])
        self.assertEqual(answers([2, 1, 6, 0]), [5, 0, 0, 1, 0, 0, 1, -5])
        self.assertEqual(answers([7, 1]), [1, -2])

    def test_pushed_out_then_begun_then_told(self):
        calls = flat([begins(3), group(2, cuts=1), submit(2), submit(0), submit(0, 1), submit(1), submit(0, 2)])
        self.assertEqual(answers(calls)[-8:], [7, 4, 1, 2, 1, 3, 1, 0])

    def test_a_line_of_all_of_them(self):
        self.assertEqual(answers(LINE), [
            1, 0, 1, 0,
            5, 0, 0, 1, 0, 0,
            4, 1, 0, 0, 0,
            5, 2, 0, 1, 2, 0,
            5, 3, 0, 0, 1, 2,
            1, -1,
            4, 4, 2, 1, 3,
            1, -2, 1, -3, 1, -1,
            4, 4, 0, 0, 0,
            6, 5, 4, 1, 2, 1, 0,
            4, 1, 0, 1, 1,
            1, -5,
            5, 2, 2, 2, 3, 1,
            1, -2,
            2, 2, 0,
            1, -4,
            2, 7, 0,
            1, -5,
            1, -2,
            6, 5, 4, 2, 2, 1, 7,
            3, 1, 1, 2,
            2, 6, 0,
        ])

    def test_why_of_several_groups(self):
        calls = flat([begins(3), group(1, 2, 8, 0), *[submit(0, 1, 2)] * 2, submit(1), submit(0, 1), why(2), why(3)])
        self.assertEqual(answers(calls)[-17:], [5, 1, 1, 2, 0, 1, 10, 2, 0, 2, 0, 1, 1, 3, 0, 1, 2])

    def test_sixty_calls(self):
        self.assertEqual(answers([0, 8] * 60), [1, 0] * 60)
        self.assertEqual(answers([1, 0, 4, 8, 1] * 60), [1, 0] * 60)
        self.assertEqual(answers([5] * 60), [1, 0] * 60)
        self.assertEqual(answers([4, 0] * 60), [1, -2] * 60)
        self.assertEqual(answers([6, 0] * 60), [1, -2] * 60)
        self.assertEqual(answers([7, 0] * 60), [1, 0] * 60)

    def test_it_takes_the_calls_alone(self):
        self.assertEqual(list(inspect.signature(answers).parameters), ["calls"])
        self.assertEqual(answers(calls=[5]), [1, 0])

    def test_whole_numbers_in_a_list(self):
        given = answers(LINE)
        self.assertIs(type(given), list)
        self.assertEqual({type(number) for number in given}, {int})


class NothingKept(unittest.TestCase):
    def test_what_is_handed_in_is_not_changed(self):
        calls = list(LINE)
        given = answers(calls)
        self.assertEqual(calls, LINE)
        self.assertIsNot(given, calls)

    def test_not_for_a_while_either(self):
        self.assertEqual(answers(NeverChanged(LINE)), answers(LINE))

    def test_one_line_behind_another_is_as_if_alone(self):
        other = flat([stand(), submit(0), submit(0), ended(0), stand(), members(1), cancel(1), why(1), members(0)])
        alone = [1, 0, 5, 0, 0, 1, 0, 0, 4, 1, 0, 0, 0, 3, 3, 1, 1, 3, 2, 3, 1, 1, -2, 2, 2, 0, 1, -5, 3, 1, 1, 2]
        first = answers(LINE)
        self.assertEqual(answers(other), alone)
        self.assertEqual(answers(LINE), first)
        self.assertEqual(answers(other), alone)

    def test_what_was_given_back_is_the_asker_s_own(self):
        given = answers(LINE)
        before = list(given)
        given.clear()
        self.assertEqual(answers(LINE), before)

    def test_it_prints_nothing(self):
        with contextlib.redirect_stdout(io.StringIO()) as out, contextlib.redirect_stderr(io.StringIO()) as err:
            answers(LINE)
        self.assertEqual((out.getvalue(), err.getvalue()), ("", ""))


if __name__ == "__main__":
    unittest.main()
