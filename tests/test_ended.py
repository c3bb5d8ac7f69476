"""ended: what it refuses, where the run stands then, and what begins behind it."""

import unittest

from tests.lines import LARGEST, ask, begins, ended, group, last, stands_then, submit, submitted


class EndedRefused(unittest.TestCase):
    def test_no_such_run(self):
        for run in (2, 3, 50, LARGEST):
            self.assertEqual(last(submit(0), submit(0), ended(run)), [-2])

    def test_no_run_at_all(self):
        self.assertEqual(last(ended(0)), [-2])
        self.assertEqual(last(submit(0), begins(1), ended(0)), [-2])

    def test_one_that_waits(self):
        self.assertEqual(last(submit(0), submit(0), ended(1)), [-5])

    def test_one_that_stands_then_already(self):
        for passed in (0, 1):
            for again in (0, 1):
                self.assertEqual(last(submit(0), ended(0, passed), ended(0, again)), [-5])

    def test_one_that_was_pushed_out(self):
        self.assertEqual(last(submit(0), submit(0), submit(0), ended(1)), [-5])

    def test_one_that_was_stopped(self):
        self.assertEqual(last(group(0, cuts=1), submit(0), submit(0), ended(0), ended(0)), [-5])

    def test_all_is_as_it_was(self):
        for run, refusal in ((1, -5), (2, -5), (3, -2), (LARGEST, -2)):
            parts = ask(submit(0), submit(0), submit(0), ended(run), ended(0), ended(2, 0))
            self.assertEqual(parts[3:], [[refusal], stands_then(3, begun=[2]), stands_then(4)])


class WhereItStands(unittest.TestCase):
    def test_passed(self):
        self.assertEqual(last(submit(0), ended(0, 1)), stands_then(3))

    def test_failed(self):
        self.assertEqual(last(submit(0), ended(0, 0)), stands_then(4))

    def test_other_numbers_are_taken_as_one(self):
        for passed in (2, 3, 4, 256, LARGEST):
            self.assertEqual(last(submit(0), ended(0, passed)), stands_then(3))

    def test_told_to_stop_however_it_ended(self):
        for passed in (0, 1, 2, LARGEST):
            parts = ask(group(0, cuts=1), submit(0), submit(0), ended(0, passed))
            self.assertEqual(parts[-2:], [submitted(1, told=[0]), stands_then(6, begun=[1])])


class BeginBehindIt(unittest.TestCase):
    def test_several(self):
        parts = ask(begins(3), submit(0, 1, 2), submit(0), submit(1), submit(2), ended(0))
        self.assertEqual(parts[-1], stands_then(3, begun=[1, 2, 3]))

    def test_several_behind_one_that_was_stopped(self):
        parts = ask(begins(2), group(0, cuts=1), group(1, cuts=1), submit(0, 1), submit(0), submit(1), ended(0, 0))
        self.assertEqual(parts[-1], stands_then(6, begun=[1, 2]))

    def test_none_where_none_waits(self):
        self.assertEqual(last(begins(2), submit(0), submit(1), ended(0)), stands_then(3))

    def test_none_where_another_group_still_holds_back(self):
        parts = ask(begins(2), submit(0), submit(1), submit(0, 1), ended(1, 0), ended(0))
        self.assertEqual(parts[-2:], [stands_then(4), stands_then(3, begun=[2])])

    def test_none_where_an_older_one_still_waits(self):
        # Run 2 stands behind run 1 in group 1, which waits for group 2 still.
        parts = ask(begins(3), submit(0), submit(2), submit(0, 1, 2), submit(1), ended(0), ended(1), ended(2))
        self.assertEqual(parts[-3:], [stands_then(3), stands_then(3, begun=[2]), stands_then(3, begun=[3])])

    def test_as_many_as_may_and_the_oldest_first(self):
        parts = ask(group(0, most=2, keep=8), *[submit(0)] * 5, ended(1), ended(0), ended(3))
        self.assertEqual(parts[-3:], [stands_then(3, [2]), stands_then(3, [3]), stands_then(3, [4])])

    def test_nothing_is_told_to_stop_then(self):
        parts = ask(group(0, keep=8, cuts=1), *[submit(0)] * 3, ended(0), ended(1))
        self.assertEqual(parts[-2:], [stands_then(6, begun=[1]), stands_then(3, begun=[2])])


if __name__ == "__main__":
    unittest.main()
