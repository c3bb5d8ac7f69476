"""submit: what it refuses, what it pushes out, what begins, and what it tells to stop."""

import unittest

from tests.lines import (LARGEST, TWENTY_HERE, ask, begins, ended, group, last, stands_then, submit, submit_set,
                         submitted)


class SetRefused(unittest.TestCase):
    def test_no_group(self):
        self.assertEqual(last(submit_set(0)), [-1])
        self.assertEqual(last(begins(8), submit_set(0)), [-1])

    def test_a_group_that_there_is_not_alone(self):
        for how_many in range(1, 9):
            self.assertEqual(last(begins(how_many), submit(how_many)), [-1])
            self.assertEqual(last(begins(how_many), submit(31)), [-1])

    def test_a_group_that_there_is_not_beside_one_that_there_is(self):
        for how_many in range(1, 9):
            self.assertEqual(last(begins(how_many), submit(0, how_many)), [-1])
            self.assertEqual(last(begins(how_many), submit(how_many - 1, how_many)), [-1])
            self.assertEqual(last(begins(how_many), submit_set(LARGEST)), [-1])

    def test_all_is_as_it_was(self):
        for group_set in (0, 2, 3, LARGEST):
            parts = ask(submit(0), submit(0), submit_set(group_set), submit(0), ended(0))
            self.assertEqual(parts[2:], [[-1], submitted(2, pushed_out=[1]), stands_then(3, begun=[2])])


class Full(unittest.TestCase):
    def test_twenty_here(self):
        parts = ask(*TWENTY_HERE, submit(5))
        self.assertEqual(parts[-2:], [submitted(19, begun=[19]), [-7]])

    def test_twenty_here_even_where_one_would_be_pushed_out(self):
        before = [begins(8), *[group(number, most=4) for number in range(4)],
                  *[submit(number) for number in range(4) for time in range(4)], *[submit(4)] * 2, *[submit(5)] * 2]
        self.assertEqual(last(*before, submit(4)), [-7])

    def test_twenty_here_of_all_three_sorts(self):
        # Two groups that cut: 4 told to stop and 1 that waits each; then 8 that run and 2 that wait.
        cutting = [call for number in (0, 1) for call in [submit(number)] * 5]
        others = [call for number in (2, 3) for call in [submit(number)] * 5]
        before = [begins(5), group(0, 4, 1, 1), group(1, 4, 1, 1), group(2, 4), group(3, 4), *cutting, *others]
        parts = ask(*before, submit(4))
        self.assertEqual(parts[9], submitted(4, told=[0, 1, 2, 3]))
        self.assertEqual(parts[-2:], [submitted(19), [-7]])

    def test_one_that_ended_makes_room(self):
        parts = ask(*TWENTY_HERE, submit(5), ended(7, 0), submit(5), submit(5))
        self.assertEqual(parts[-4:], [[-7], stands_then(4), submitted(20, begun=[20]), [-7]])

    def test_fifty_in_all_with_fewer_here(self):
        parts = ask(*[submit(0)] * 51)
        self.assertEqual(parts[-2:], [submitted(49, pushed_out=[48]), [-7]])

    def test_fifty_in_all_though_the_others_are_over(self):
        # Only two are here at the end, and both may end: there are 50 in all still.
        parts = ask(*[submit(0)] * 50, ended(0), ended(49), submit(0))
        self.assertEqual(parts[-3:], [stands_then(3, begun=[49]), stands_then(3), [-7]])

    def test_begins_makes_room(self):
        self.assertEqual(last(*[submit(0)] * 50, begins(1), submit(0)), submitted(0, begun=[0]))
        self.assertEqual(last(*TWENTY_HERE, begins(1), submit(0)), submitted(0, begun=[0]))

    def test_twenty_here_and_fifty_in_all(self):
        before = [begins(6), *[group(number, most=4) for number in range(4)],
                  *[submit(number) for number in range(4) for time in range(4)], *[submit(4)] * 32, *[submit(5)] * 2]
        self.assertEqual(ask(*before, submit(5))[-2:], [submitted(49), [-7]])
        self.assertEqual(last(*before, submit(6)), [-1])

    def test_a_wrong_set_comes_ahead_of_twenty_here(self):
        for group_set in (0, 64, 65, LARGEST):
            self.assertEqual(last(*TWENTY_HERE, submit_set(group_set)), [-1])

    def test_a_wrong_set_comes_ahead_of_fifty_in_all(self):
        for group_set in (0, 2, 3, LARGEST):
            self.assertEqual(last(*[submit(0)] * 50, submit_set(group_set)), [-1])

    def test_all_is_as_it_was(self):
        parts = ask(*TWENTY_HERE, submit(0), ended(0), submit(0), ended(20))
        self.assertEqual(parts[-4:], [[-7], stands_then(3), submitted(20, begun=[20]), stands_then(3)])
        parts = ask(*[submit(0)] * 50, submit(0), ended(50), ended(0))
        self.assertEqual(parts[-3:], [[-7], [-2], stands_then(3, begun=[49])])


class HeldBack(unittest.TestCase):
    def test_one_begins_at_once_and_one_waits(self):
        self.assertEqual(ask(submit(0), submit(0)), [submitted(0, begun=[0]), submitted(1)])

    def test_groups_apart_do_not_hold_one_another_back(self):
        parts = ask(begins(3), submit(0), submit(1), submit(2))[1:]
        self.assertEqual(parts, [submitted(run, begun=[run]) for run in range(3)])

    def test_a_run_of_several_groups_begins(self):
        self.assertEqual(last(begins(8), submit_set(255)), submitted(0, begun=[0]))

    def test_a_run_of_several_groups_holds_back_in_each(self):
        for number in (0, 2, 7):
            self.assertEqual(last(begins(8), submit(0, 2, 7), submit(number)), submitted(1))
        self.assertEqual(last(begins(8), submit(0, 2, 7), submit(1)), submitted(1, begun=[1]))

    def test_one_group_alone_is_enough(self):
        for number in (0, 1, 2):
            self.assertEqual(last(begins(3), submit(number), submit(0, 1, 2)), submitted(1))

    def test_one_that_waits_holds_back_too(self):
        # Run 2 needs group 1 alone, where nothing runs; but run 1 waits for it and is older.
        parts = ask(begins(2), submit(0), submit(0, 1), submit(1))[1:]
        self.assertEqual(parts, [submitted(0, begun=[0]), submitted(1), submitted(2)])

    def test_one_that_waits_takes_no_more_than_its_place(self):
        parts = ask(begins(2), group(1, most=2), submit(0), submit(0, 1), submit(1), submit(1))[2:]
        self.assertEqual(parts, [submitted(0, begun=[0]), submitted(1), submitted(2, begun=[2]), submitted(3)])

    def test_one_told_to_stop_holds_back_until_it_has(self):
        parts = ask(group(0, keep=2, cuts=1), submit(0), submit(0), submit(0), ended(0))[1:]
        self.assertEqual(parts, [submitted(0, begun=[0]), submitted(1, told=[0]), submitted(2), stands_then(6, [1])])

    def test_those_over_do_not_hold_back(self):
        for passed in (0, 1):
            self.assertEqual(last(submit(0), ended(0, passed), submit(0)), submitted(1, begun=[1]))
        self.assertEqual(last(group(0, cuts=1), submit(0), submit(0), ended(0), ended(1), submit(0)),
                         submitted(2, begun=[2]))

    def test_those_pushed_out_do_not_hold_back(self):
        # Run 1 held back run 2 in group 1; pushed out by run 3, it does no longer.
        parts = ask(begins(2), submit(0), submit(0, 1), submit(1), submit(0))
        self.assertEqual(parts[-1], submitted(3, pushed_out=[1], begun=[2]))

    def test_several_begin_behind_one_pushed_out(self):
        parts = ask(begins(3), submit(0), submit(0, 1, 2), submit(1), submit(2), submit(0))
        self.assertEqual(parts[-1], submitted(4, pushed_out=[1], begun=[2, 3]))


class PushedOut(unittest.TestCase):
    def test_several_at_the_same_time(self):
        parts = ask(begins(2), submit(0), submit(1), submit(0), submit(1), submit(0, 1))
        self.assertEqual(parts[-1], submitted(4, pushed_out=[2, 3]))

    def test_several_that_count_one_another(self):
        # Run 1 counts run 2 as a newer one in group 1, and behind run 4 both go.
        calls = [begins(2), group(0, keep=1), group(1, keep=2), submit(0, 1), submit(0, 1), submit(1), submit(1)]
        self.assertEqual(ask(*calls)[3:], [submitted(0, begun=[0]), submitted(1), submitted(2), submitted(3)])
        self.assertEqual(last(*calls, submit(0)), submitted(4, pushed_out=[1]))
        self.assertEqual(last(*calls, submit(0, 1)), submitted(4, pushed_out=[1, 2]))

    def test_not_the_newest_of_one_of_its_groups(self):
        parts = ask(begins(2), submit(0, 1), submit(0, 1), submit(0), submit(0))
        self.assertEqual(parts[-2:], [submitted(2), submitted(3, pushed_out=[2])])

    def test_not_among_the_newest_of_a_group_with_a_larger_keep(self):
        calls = [begins(2), group(1, keep=2), *[submit(0, 1)] * 3]
        self.assertEqual(ask(*calls)[-1], submitted(2))
        self.assertEqual(last(*calls, submit(0, 1)), submitted(3, pushed_out=[1]))
        self.assertEqual(last(*calls, submit(0)), submitted(3))
        self.assertEqual(last(*calls, submit(1)), submitted(3, pushed_out=[1]))

    def test_newer_ones_of_other_groups_do_not_count(self):
        parts = ask(begins(2), submit(0), submit(1), submit(0), submit(1))
        self.assertEqual(parts[-1], submitted(3))

    def test_newer_ones_that_run_do_not_count(self):
        # Run 2 runs in group 1, so in group 1 no newer one than run 1 waits.
        parts = ask(begins(2), group(1, most=2), submit(0), submit(0, 1), submit(1), submit(0))
        self.assertEqual(parts[-2:], [submitted(2, begun=[2]), submitted(3)])

    def test_newer_ones_pushed_out_earlier_do_not_count(self):
        parts = ask(begins(2), group(0, keep=2), submit(0), submit(0, 1), *[submit(0)] * 3, submit(1), submit(0))
        self.assertEqual(parts[-3:], [submitted(4, pushed_out=[2]), submitted(5, pushed_out=[1], begun=[5]),
                                      submitted(6, pushed_out=[3])])

    def test_the_one_that_has_come_counts_though_it_begins_then(self):
        parts = ask(begins(2), group(1, most=2), submit(0), submit(0, 1), submit(0), submit(1))
        self.assertEqual(parts[-1], submitted(3, pushed_out=[1], begun=[3]))

    def test_one_that_runs_is_not_pushed_out(self):
        parts = ask(submit(0), submit(0), submit(0), ended(0))
        self.assertEqual(parts[1:], [submitted(1), submitted(2, pushed_out=[1]), stands_then(3, begun=[2])])

    def test_one_told_to_stop_is_not_pushed_out(self):
        parts = ask(group(0, cuts=1), submit(0), submit(0), submit(0), ended(0))
        self.assertEqual(parts[-2:], [submitted(2, pushed_out=[1]), stands_then(6, begun=[2])])


class ToldToStop(unittest.TestCase):
    def test_several_at_once(self):
        parts = ask(group(0, most=3, cuts=1), *[submit(0)] * 4)
        self.assertEqual(parts[-1], submitted(3, told=[0, 1, 2]))

    def test_not_where_one_of_its_groups_does_not_cut(self):
        for cutting in (0, 1):
            parts = ask(begins(2), group(cutting, cuts=1), submit(0, 1), submit(0, 1))
            self.assertEqual(parts[-1], submitted(1))
        parts = ask(begins(2), group(0, cuts=1), group(1, cuts=1), submit(0, 1), submit(0, 1))
        self.assertEqual(parts[-1], submitted(1, told=[0]))

    def test_not_where_in_one_of_its_groups_no_newer_one_waits(self):
        cutting = [begins(2), group(0, cuts=1), group(1, cuts=1)]
        for number in (0, 1):
            self.assertEqual(last(*cutting, submit(0, 1), submit(number)), submitted(1))
            self.assertEqual(last(*cutting, submit(0, 1), submit(number), submit(1 - number)), submitted(2, told=[0]))

    def test_not_where_the_newer_one_begins(self):
        parts = ask(group(0, most=2, cuts=1), submit(0), submit(0))
        self.assertEqual(parts[-1], submitted(1, begun=[1]))

    def test_not_where_an_older_one_alone_waits(self):
        # Run 1 waits in group 1, and is older than run 2, which runs there.
        parts = ask(begins(2), group(1, most=2, cuts=1), submit(0), submit(0, 1), submit(1))
        self.assertEqual(parts[-1], submitted(2, begun=[2]))
        parts = ask(begins(3), group(1, most=2, cuts=1), submit(0), submit(0, 1), submit(1), submit(2))
        self.assertEqual(parts[-1], submitted(3, begun=[3]))

    def test_not_where_it_began_only_now(self):
        # Run 2 begins as run 3 comes, which waits in group 1 too; the next one that comes cuts it.
        calls = [begins(2), group(1, keep=2, cuts=1), submit(0), submit(0, 1), submit(1), submit(0, 1)]
        self.assertEqual(last(*calls), submitted(3, pushed_out=[1], begun=[2]))
        self.assertEqual(last(*calls, submit(0)), submitted(4, told=[2]))

    def test_not_told_twice(self):
        parts = ask(group(0, keep=8, cuts=1), submit(0), submit(0), submit(0))
        self.assertEqual(parts[-2:], [submitted(1, told=[0]), submitted(2)])

    def test_not_one_that_is_over(self):
        parts = ask(group(0, most=2, keep=8, cuts=1), submit(0), submit(0), ended(0), submit(0), submit(0))
        self.assertEqual(parts[-2:], [submitted(2, begun=[2]), submitted(3, told=[1, 2])])

    def test_told_as_any_run_comes(self):
        # Run 1 began behind run 0, when none came; run 2 waits behind it already.
        parts = ask(begins(2), group(0, keep=8, cuts=1), submit(0), submit(0), submit(0), ended(0), submit(1))
        self.assertEqual(parts[-2:], [stands_then(6, begun=[1]), submitted(3, begun=[3], told=[1])])

    def test_newer_ones_pushed_out_leave_a_newer_one(self):
        parts = ask(begins(2), group(0, cuts=1), group(1, cuts=1), submit(0, 1), submit(0), submit(0), submit(1))
        self.assertEqual(parts[-2:], [submitted(2, pushed_out=[1]), submitted(3, told=[0])])


if __name__ == "__main__":
    unittest.main()
