"""begins and group: what they answer, refuse and change."""

import unittest

from tests.lines import LARGEST, ask, begins, ended, group, last, submit, submit_set, submitted


class Begins(unittest.TestCase):
    def test_one_to_eight_groups_are_taken(self):
        for how_many in range(1, 9):
            self.assertEqual(last(begins(how_many)), [0])

    def test_none_nine_and_more_are_refused(self):
        for how_many in (0, 9, 10, 256, LARGEST):
            self.assertEqual(last(begins(how_many)), [-1])

    def test_there_are_so_many_groups_then_and_no_more(self):
        for how_many in range(1, 9):
            self.assertEqual(last(begins(how_many), group(how_many - 1)), [0])
            self.assertEqual(last(begins(how_many), group(how_many)), [-2])
            self.assertEqual(last(begins(how_many), submit_set((1 << how_many) - 1)), submitted(0, begun=[0]))
            self.assertEqual(last(begins(how_many), submit_set(1 << how_many)), [-1])

    def test_there_are_no_runs_then(self):
        parts = ask(begins(1), submit(0), submit(0), begins(1), ended(0), submit(0))
        self.assertEqual(parts[4:], [[-2], submitted(0, begun=[0])])

    def test_groups_may_be_set_again_then(self):
        self.assertEqual(last(submit(0), begins(1), group(0, 2, 2, 1)), [0])

    def test_each_group_has_most_one_then(self):
        for number in (0, 7):
            parts = ask(begins(8), group(number, most=4), begins(8), submit(number), submit(number))
            self.assertEqual(parts[3:], [submitted(0, begun=[0]), submitted(1)])

    def test_each_group_has_keep_one_then(self):
        for number in (0, 7):
            parts = ask(begins(8), group(number, keep=8), begins(8), submit(number), submit(number), submit(number))
            self.assertEqual(parts[5], submitted(2, pushed_out=[1]))

    def test_no_group_cuts_then(self):
        for number in (0, 7):
            parts = ask(begins(8), group(number, cuts=1), begins(8), submit(number), submit(number))
            self.assertEqual(parts[4], submitted(1))

    def test_a_refused_one_leaves_groups_and_runs(self):
        for how_many in (0, 9, LARGEST):
            parts = ask(begins(2), group(1, 2, 2, 1), submit(1), begins(how_many), group(1), submit(1), submit(1))
            self.assertEqual(parts[3:], [[-1], [-3], submitted(1, begun=[1]), submitted(2, told=[0, 1])])


class AtTheBeginning(unittest.TestCase):
    def test_there_is_one_group(self):
        self.assertEqual(ask(group(0), group(1), submit_set(2)), [[0], [-2], [-1]])

    def test_it_has_most_one_and_keep_one_and_does_not_cut(self):
        parts = ask(submit(0), submit(0), submit(0))
        self.assertEqual(parts, [submitted(0, begun=[0]), submitted(1), submitted(2, pushed_out=[1])])

    def test_there_is_no_run(self):
        self.assertEqual(last(ended(0)), [-2])


class GroupTaken(unittest.TestCase):
    def test_each_end_of_each_range_is_taken(self):
        for most in (1, 4):
            for keep in (1, 8):
                for cuts in (0, 1):
                    self.assertEqual(last(group(0, most, keep, cuts)), [0])

    def test_so_many_run_at_a_time(self):
        for most in range(1, 5):
            parts = ask(group(0, most=most, keep=8), *[submit(0)] * 6)[1:]
            expected = [submitted(run, begun=[run] if run < most else []) for run in range(6)]
            self.assertEqual(parts, expected)

    def test_so_many_newer_ones_push_out(self):
        for keep in range(1, 9):
            parts = ask(group(0, keep=keep), *[submit(0)] * 12)[2:]
            expected = [submitted(run, pushed_out=[run - keep] if run > keep else []) for run in range(1, 12)]
            self.assertEqual(parts, expected)

    def test_it_cuts_or_does_not(self):
        self.assertEqual(last(group(0, cuts=1), submit(0), submit(0)), submitted(1, told=[0]))
        self.assertEqual(last(group(0, cuts=0), submit(0), submit(0)), submitted(1))

    def test_only_that_group_is_changed(self):
        parts = ask(begins(3), group(1, 2, 2, 1), *[submit(0)] * 3, *[submit(2)] * 3)[2:]
        self.assertEqual(parts, [
            submitted(0, begun=[0]), submitted(1), submitted(2, pushed_out=[1]),
            submitted(3, begun=[3]), submitted(4), submitted(5, pushed_out=[4]),
        ])

    def test_the_last_one_told_holds(self):
        parts = ask(group(0, 4, 8, 1), group(0, 1, 2, 0), *[submit(0)] * 4)[2:]
        self.assertEqual(parts, [submitted(0, begun=[0]), submitted(1), submitted(2), submitted(3, pushed_out=[1])])


class GroupRefused(unittest.TestCase):
    OUT_OF_RANGE = (
        {"most": 0}, {"most": 5}, {"most": LARGEST},
        {"keep": 0}, {"keep": 9}, {"keep": LARGEST},
        {"cuts": 2}, {"cuts": LARGEST},
        {"most": 0, "keep": 0}, {"most": 5, "cuts": 2}, {"keep": 9, "cuts": 2}, {"most": 5, "keep": 9, "cuts": 2},
    )

    def test_a_number_beyond_its_range(self):
        for numbers in self.OUT_OF_RANGE:
            self.assertEqual(last(group(0, **numbers)), [-1])

    def test_no_such_group(self):
        for number in (3, 4, 8, LARGEST):
            self.assertEqual(last(begins(3), group(number)), [-2])

    def test_a_run_has_been_submitted(self):
        self.assertEqual(last(submit(0), group(0)), [-3])

    def test_a_run_has_been_submitted_and_is_over(self):
        self.assertEqual(last(submit(0), ended(0), group(0)), [-3])

    def test_a_refused_submit_is_no_run(self):
        self.assertEqual(last(submit_set(0), submit_set(2), group(0)), [0])

    def test_no_such_group_comes_ahead_of_a_run_submitted(self):
        self.assertEqual(last(submit(0), group(1)), [-2])

    def test_no_such_group_comes_ahead_of_a_range(self):
        for numbers in self.OUT_OF_RANGE:
            self.assertEqual(last(group(1, **numbers)), [-2])

    def test_a_run_submitted_comes_ahead_of_a_range(self):
        for numbers in self.OUT_OF_RANGE:
            self.assertEqual(last(submit(0), group(0, **numbers)), [-3])

    def test_no_such_group_comes_ahead_of_both(self):
        for numbers in self.OUT_OF_RANGE:
            self.assertEqual(last(submit(0), group(1, **numbers)), [-2])

    def test_a_range_refused_leaves_the_group(self):
        for numbers in self.OUT_OF_RANGE:
            self.assert_left_as_it_was({"most": 3, "keep": 3, "cuts": 0, **numbers})

    def assert_left_as_it_was(self, numbers):
        before = [begins(2), group(0, 2, 2, 1)]
        behind = [submit(0)] * 6
        self.assertEqual(ask(*before, group(0, **numbers), *behind)[3:], ask(*before, *behind)[2:])

    def test_a_run_submitted_leaves_the_group(self):
        parts = ask(submit(0), group(0, 4, 8, 1), submit(0), submit(0))
        self.assertEqual(parts[2:], [submitted(1), submitted(2, pushed_out=[1])])

    def test_no_such_group_leaves_the_others(self):
        parts = ask(begins(2), group(2, 4, 8, 1), submit(1), submit(1), submit(1))
        self.assertEqual(parts[2:], [submitted(0, begun=[0]), submitted(1), submitted(2, pushed_out=[1])])
        self.assertEqual(last(begins(2), group(2, 4, 8, 1), submit_set(4)), [-1])


if __name__ == "__main__":
    unittest.main()
