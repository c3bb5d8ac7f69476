"""why: what it refuses, and which groups and which older runs hold back a run that waits."""

import unittest

from tests.lines import (AT, EACH_STAND, LARGEST, OVER, ask, because, begins, cancel, ended, group, last, stand,
                         standing, stands_then, submit, submit_set, submitted, why)


class WhyRefused(unittest.TestCase):
    def test_no_such_run(self):
        for run in (2, 3, 50, LARGEST):
            self.assertEqual(last(submit(0), submit(0), why(run)), [-2])
        for run in (8, 9, LARGEST):
            self.assertEqual(last(*EACH_STAND, why(run)), [-2])

    def test_no_run_at_all(self):
        self.assertEqual(last(why(0)), [-2])
        self.assertEqual(last(submit(0), submit(0), begins(1), why(1)), [-2])

    def test_one_that_does_not_wait(self):
        for stands in (1, 2, *OVER):
            self.assertEqual(last(*EACH_STAND, why(AT[stands])), [-5])

    def test_one_that_waits(self):
        self.assertEqual(last(*EACH_STAND, why(AT[0])), because({0: [AT[1]]}))

    def test_one_that_waits_no_longer(self):
        calls = [submit(0), submit(0)]
        self.assertEqual(ask(*calls, why(1), ended(0), why(1))[2:], [because({0: [0]}), stands_then(3, [1]), [-5]])
        self.assertEqual(ask(*calls, why(1), cancel(1), why(1))[2:], [because({0: [0]}), stands_then(7), [-5]])
        self.assertEqual(ask(*calls, submit(0), why(1), why(2))[3:], [[-5], because({0: [0]})])


class GroupsThatHoldBack(unittest.TestCase):
    def test_its_only_group(self):
        for number in (0, 3, 7):
            self.assertEqual(last(begins(8), submit(number), submit(number), why(1)), because({number: [0]}))

    def test_one_of_several(self):
        for number in (0, 1, 2):
            self.assertEqual(last(begins(3), submit(number), submit(0, 1, 2), why(1)), because({number: [0]}))

    def test_some_and_not_others(self):
        parts = ask(begins(5), submit(3), submit(1), submit(0, 1, 2, 3, 4), why(2))
        self.assertEqual(parts[-1], because({1: [1], 3: [0]}))

    def test_all_of_several(self):
        parts = ask(begins(3), submit(2), submit(1), submit(0), submit(0, 1, 2), why(3))
        self.assertEqual(parts[-1], because({0: [2], 1: [1], 2: [0]}))

    def test_all_eight_by_one_run(self):
        parts = ask(begins(8), submit_set(255), submit_set(255), why(1))
        self.assertEqual(parts[-1], because({number: [0] for number in range(8)}))

    def test_not_a_group_that_it_does_not_belong_to(self):
        parts = ask(begins(2), submit(0, 1), submit(1), submit(0), why(2))
        self.assertEqual(parts[-1], because({0: [0]}))

    def test_no_longer_a_group_that_is_free(self):
        calls = [begins(2), submit(0), submit(1), submit(0, 1)]
        self.assertEqual(last(*calls, ended(0), why(2)), because({1: [1]}))
        self.assertEqual(last(*calls, ended(1, 0), why(2)), because({0: [0]}))


class OlderRunsThatAreHere(unittest.TestCase):
    def test_rising_whether_they_wait_run_or_are_told_to_stop(self):
        parts = ask(group(0, most=2, keep=8), *[submit(0)] * 6, cancel(1), why(4))
        self.assertEqual(parts[-1], because({0: [0, 1, 2, 3]}))

    def test_no_newer_one_and_not_itself(self):
        calls = [group(0, keep=8), *[submit(0)] * 6]
        for run in range(1, 6):
            self.assertEqual(last(*calls, why(run)), because({0: list(range(run))}))

    def test_none_that_is_over(self):
        # Runs 0 to 4 are over in each way that there is; run 5 is told to stop and run 6 waits.
        calls = [begins(2), group(0, cuts=1), group(1, cuts=1), submit(0, 1), ended(0, 1), submit(0, 1), ended(1, 0),
                 submit(0, 1), submit(0, 1), submit(0, 1), cancel(4), ended(2), submit(0, 1), submit(0, 1)]
        self.assertEqual(last(*calls, stand()), standing(3, 4, 6, 5, 7, 2, 0))
        self.assertEqual(last(*calls, why(6)), because({0: [5], 1: [5]}))

    def test_one_called_off_is_told_no_longer(self):
        parts = ask(group(0, keep=8), *[submit(0)] * 4, why(3), cancel(1), why(3), cancel(2), why(3))
        self.assertEqual(parts[5::2], [because({0: [0, 1, 2]}), because({0: [0, 2]}), because({0: [0]})])

    def test_one_told_to_stop_by_a_submit_is_told(self):
        parts = ask(group(0, cuts=1), submit(0), submit(0), why(1), ended(0), why(1))
        self.assertEqual(parts[2:], [submitted(1, told=[0]), because({0: [0]}), stands_then(6, [1]), [-5]])

    def test_each_group_with_its_own(self):
        # Run 2 waits in groups 0 and 1 and holds back in both; run 3 runs in group 2.
        parts = ask(begins(3), group(0, keep=2), submit(0), submit(1), submit(0, 1), submit(2), submit(0, 1, 2), why(4))
        self.assertEqual(parts[-1], because({0: [0, 2], 1: [1, 2], 2: [3]}))


class MostAboveOne(unittest.TestCase):
    def test_fewer_than_its_most_do_not_hold_back(self):
        calls = [begins(2), group(1, most=2), submit(0), submit(1), submit(0, 1), why(2)]
        self.assertEqual(last(*calls), because({0: [0]}))

    def test_as_many_as_its_most_hold_back(self):
        for most in range(1, 5):
            calls = [group(0, most=most, keep=8), *[submit(0)] * (most + 1)]
            self.assertEqual(last(*calls, why(most)), because({0: list(range(most))}))
            self.assertEqual(last(*calls, why(most - 1)), [-5])

    def test_more_than_its_most_are_all_told(self):
        calls = [group(0, most=4, keep=8), *[submit(0)] * 9]
        self.assertEqual(last(*calls, why(8)), because({0: list(range(8))}))

    def test_some_with_more_and_some_with_fewer(self):
        calls = [begins(3), group(0, most=2), group(1, most=3), group(2, most=1),
                 submit(0, 1), submit(0, 1), submit(2), submit(0, 1, 2), why(3)]
        self.assertEqual(last(*calls), because({0: [0, 1], 2: [2]}))


class NothingChanged(unittest.TestCase):
    def test_asked_twice(self):
        calls = [begins(2), submit(0), submit(1), submit(0, 1)]
        behind = [ended(0), ended(1), submit(0)]
        parts = ask(*calls, why(2), why(2), why(0), why(3), *behind)
        self.assertEqual(parts[4:8], [because({0: [0], 1: [1]})] * 2 + [[-5], [-2]])
        self.assertEqual(parts[8:], ask(*calls, *behind)[4:])


if __name__ == "__main__":
    unittest.main()
