"""cancel: what it refuses, where the run stands then, what begins behind it, and what it is until it ends."""

import unittest

from tests.lines import (AT, EACH_STAND, LARGEST, OVER, TWENTY_HERE, ask, because, begins, belonging, cancel, ended,
                         group, last, look_round, members, stand, standing, stands_then, submit, submitted, why)


class CancelRefused(unittest.TestCase):
    def test_no_such_run(self):
        for run in (2, 3, 50, LARGEST):
            self.assertEqual(ask(submit(0), submit(0), cancel(run))[2:], [[-2]])

    def test_the_last_one_that_there_is(self):
        self.assertEqual(last(submit(0), submit(0), cancel(1)), stands_then(7))

    def test_no_run_at_all(self):
        self.assertEqual(last(cancel(0)), [-2])
        self.assertEqual(last(submit(0), begins(1), cancel(0)), [-2])

    def test_told_to_stop_already_by_a_submit(self):
        self.assertEqual(last(group(0, cuts=1), submit(0), submit(0), cancel(0)), [-4])
        self.assertEqual(last(*EACH_STAND, cancel(AT[2])), [-4])

    def test_told_to_stop_already_by_a_cancel(self):
        self.assertEqual(ask(submit(0), cancel(0), cancel(0), cancel(0))[1:], [stands_then(2), [-4], [-4]])

    def test_one_that_is_over_in_each_way(self):
        for stands in OVER:
            self.assertEqual(last(*EACH_STAND, cancel(AT[stands])), [-5])

    def test_one_that_was_called_off_just_now(self):
        self.assertEqual(ask(submit(0), submit(0), cancel(1), cancel(1))[2:], [stands_then(7), [-5]])

    def test_one_that_was_stopped_behind_a_cancel(self):
        for passed in (0, 1):
            self.assertEqual(last(submit(0), cancel(0), ended(0, passed), cancel(0)), [-5])

    def test_all_is_as_it_was(self):
        seen = look_round(8, 2)
        behind = [*seen, submit(0, 1), ended(AT[2]), ended(AT[1], 0), *seen]
        plain = ask(*EACH_STAND, *behind)[len(EACH_STAND):]
        for run, refusal in ((8, -2), (LARGEST, -2), (AT[2], -4), *[(AT[stands], -5) for stands in OVER]):
            parts = ask(*EACH_STAND, cancel(run), *behind)[len(EACH_STAND):]
            self.assertEqual(parts, [[refusal], *plain])


class OneThatWaits(unittest.TestCase):
    def test_none_behind_it(self):
        parts = ask(submit(0), submit(0), cancel(1), stand())
        self.assertEqual(parts[2:], [stands_then(7), standing(1, 7)])

    def test_one_behind_it_begins(self):
        parts = ask(begins(2), submit(0), submit(0, 1), submit(1), cancel(1), stand())
        self.assertEqual(parts[4:], [stands_then(7, begun=[2]), standing(1, 7, 1)])

    def test_several_behind_it_begin(self):
        parts = ask(begins(4), submit(0), submit(0, 1, 2, 3), submit(1), submit(2), submit(3), cancel(1), stand())
        self.assertEqual(parts[6:], [stands_then(7, begun=[2, 3, 4]), standing(1, 7, 1, 1, 1)])

    def test_one_behind_it_is_held_back_by_one_that_runs(self):
        parts = ask(group(0, keep=8), *[submit(0)] * 3, cancel(1), stand())
        self.assertEqual(parts[4:], [stands_then(7), standing(1, 7, 0)])

    def test_one_behind_it_is_held_back_by_another_one_that_waits(self):
        # Runs 1 and 2 wait for group 0, and each holds back run 3 in group 1.
        calls = [begins(2), group(0, keep=8), submit(0), submit(0, 1), submit(0, 1), submit(1)]
        self.assertEqual(ask(*calls, cancel(1), cancel(2))[6:], [stands_then(7), stands_then(7, begun=[3])])
        self.assertEqual(ask(*calls, cancel(2), cancel(1))[6:], [stands_then(7), stands_then(7, begun=[3])])

    def test_one_behind_it_is_held_back_by_another_group(self):
        parts = ask(begins(3), submit(0), submit(2), submit(0, 1), submit(1, 2), cancel(2), ended(1))
        self.assertEqual(parts[5:], [stands_then(7), stands_then(3, begun=[3])])

    def test_older_ones_do_not_begin(self):
        parts = ask(group(0, keep=8), *[submit(0)] * 4, cancel(3), cancel(2), cancel(1))
        self.assertEqual(parts[5:], [stands_then(7)] * 3)

    def test_with_a_most_above_one(self):
        # Run 1 waits for group 0 and takes one of group 1's two places, so that run 3 waits.
        calls = [begins(2), group(1, most=2, keep=8), submit(0), submit(0, 1), *[submit(1)] * 3]
        parts = ask(*calls, cancel(1), stand())
        self.assertEqual(parts[len(calls):], [stands_then(7, begun=[3]), standing(1, 7, 1, 1, 0)])

    def test_those_that_begin_hold_back_the_next(self):
        calls = [begins(2), group(1, keep=8), submit(0), submit(0, 1), submit(1), submit(1)]
        self.assertEqual(ask(*calls, cancel(1), ended(2))[6:], [stands_then(7, begun=[2]), stands_then(3, begun=[3])])

    def test_nothing_is_told_to_stop_then(self):
        # Run 1 began when run 0 ended, and run 2 waits behind it: only one that comes tells it to stop.
        calls = [group(0, keep=8, cuts=1), *[submit(0)] * 4, ended(0), cancel(3)]
        self.assertEqual(ask(*calls, stand())[-2:], [stands_then(7), standing(6, 1, 0, 7)])
        self.assertEqual(last(*calls, submit(0)), submitted(4, told=[1]))


class OneThatWasCalledOff(unittest.TestCase):
    def test_it_does_not_hold_back(self):
        parts = ask(submit(0), submit(0), cancel(1), ended(0), submit(0))
        self.assertEqual(parts[3:], [stands_then(3), submitted(2, begun=[2])])

    def test_it_does_not_end(self):
        self.assertEqual(last(submit(0), submit(0), cancel(1), ended(1)), [-5])

    def test_it_is_no_newer_one_that_pushes_out(self):
        parts = ask(group(0, keep=2), *[submit(0)] * 3, cancel(2), submit(0), submit(0))
        self.assertEqual(parts[5:], [submitted(3), submitted(4, pushed_out=[1])])

    def test_it_is_not_pushed_out(self):
        parts = ask(submit(0), submit(0), cancel(1), submit(0), submit(0), stand())
        self.assertEqual(parts[3:], [submitted(2), submitted(3, pushed_out=[2]), standing(1, 7, 5, 0)])

    def test_it_is_no_newer_one_that_cuts(self):
        calls = [begins(2), group(0, cuts=1), group(1, cuts=1), submit(0, 1), submit(0), cancel(1), submit(1)]
        self.assertEqual(last(*calls), submitted(2))
        self.assertEqual(last(*calls, submit(0)), submitted(3, told=[0]))

    def test_it_makes_room_among_twenty_here(self):
        calls = [begins(8), *[group(number, most=4) for number in range(4)],
                 *[submit(number) for number in range(4) for time in range(4)], *[submit(4)] * 2, *[submit(5)] * 2]
        parts = ask(*calls, submit(6), cancel(17), submit(6), submit(6))
        self.assertEqual(parts[-4:], [[-7], stands_then(7), submitted(20, begun=[20]), [-7]])

    def test_it_is_one_of_fifty_still(self):
        parts = ask(*[submit(0)] * 50, cancel(49), submit(0))
        self.assertEqual(parts[-2:], [stands_then(7), [-7]])

    def test_it_is_a_run_that_has_been_submitted(self):
        self.assertEqual(last(submit(0), submit(0), cancel(1), ended(0), group(0)), [-3])


class OneThatRuns(unittest.TestCase):
    def test_it_is_told_to_stop_and_none_begins(self):
        for cuts in (0, 1):
            parts = ask(group(0, cuts=cuts), submit(0), cancel(0), stand())
            self.assertEqual(parts[2:], [stands_then(2), standing(2)])

    def test_those_behind_it_wait_still(self):
        parts = ask(begins(2), group(0, keep=8), submit(0, 1), submit(0), submit(1), cancel(0), stand())
        self.assertEqual(parts[5:], [stands_then(2), standing(2, 0, 0)])

    def test_one_that_waited_first(self):
        parts = ask(submit(0), submit(0), ended(0), cancel(1), ended(1))
        self.assertEqual(parts[2:], [stands_then(3, begun=[1]), stands_then(2), stands_then(6)])

    def test_the_others_run_on(self):
        parts = ask(group(0, most=3), *[submit(0)] * 3, cancel(1), stand())
        self.assertEqual(parts[4:], [stands_then(2), standing(1, 2, 1)])


class UntilItEnds(unittest.TestCase):
    def test_it_was_stopped_however_it_ended(self):
        for passed in (0, 1, 2, LARGEST):
            parts = ask(submit(0), cancel(0), ended(0, passed), stand())
            self.assertEqual(parts[2:], [stands_then(6), standing(6)])

    def test_those_behind_it_begin_when_it_ends(self):
        for passed in (0, 1):
            parts = ask(begins(2), submit(0, 1), submit(0), submit(1), cancel(0), ended(0, passed))
            self.assertEqual(parts[4:], [stands_then(2), stands_then(6, begun=[1, 2])])

    def test_it_holds_back_one_that_comes(self):
        parts = ask(submit(0), cancel(0), submit(0), ended(0), stand())
        self.assertEqual(parts[2:], [submitted(1), stands_then(6, begun=[1]), standing(6, 1)])

    def test_it_takes_one_of_several_places(self):
        parts = ask(group(0, most=2), submit(0), cancel(0), submit(0), submit(0), ended(0, 0))
        self.assertEqual(parts[3:], [submitted(1, begun=[1]), submitted(2), stands_then(6, begun=[2])])

    def test_it_is_one_of_twenty_here(self):
        parts = ask(*TWENTY_HERE, cancel(7), submit(5), ended(7), submit(5), submit(5))
        self.assertEqual(parts[-5:], [stands_then(2), [-7], stands_then(6), submitted(20, begun=[20]), [-7]])

    def test_all_twenty_here(self):
        parts = ask(*TWENTY_HERE, *[cancel(run) for run in range(20)], submit(5))
        self.assertEqual(parts[len(TWENTY_HERE):], [stands_then(2)] * 20 + [[-7]])

    def test_why_tells_it(self):
        parts = ask(submit(0), submit(0), cancel(0), why(1), why(0))
        self.assertEqual(parts[3:], [because({0: [0]}), [-5]])

    def test_members_tells_it(self):
        parts = ask(submit(0), submit(0), cancel(0), members(0), ended(0), members(0))
        self.assertEqual(parts[3:], [belonging({0: 2, 1: 0}), stands_then(6, begun=[1]), belonging({1: 1})])

    def test_a_later_submit_does_not_tell_it_once_more(self):
        parts = ask(group(0, keep=8, cuts=1), submit(0), cancel(0), submit(0), submit(0), stand())
        self.assertEqual(parts[3:], [submitted(1), submitted(2), standing(2, 0, 0)])

    def test_a_later_submit_tells_the_others_alone(self):
        parts = ask(group(0, most=3, cuts=1), *[submit(0)] * 3, cancel(1), submit(0), stand())
        self.assertEqual(parts[5:], [submitted(3, told=[0, 2]), standing(2, 2, 2, 0)])

    def test_a_later_submit_does_not_push_it_out(self):
        parts = ask(submit(0), submit(0), cancel(0), submit(0), stand())
        self.assertEqual(parts[3:], [submitted(2, pushed_out=[1]), standing(2, 5, 0)])


if __name__ == "__main__":
    unittest.main()
