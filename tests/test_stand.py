"""stand: how many runs there are, and where each stands."""

import unittest

from tests.lines import (AT, EACH_STAND, LARGEST, ask, begins, cancel, ended, group, last, members, stand, standing,
                         submit, submit_set, why)


class Stand(unittest.TestCase):
    def test_no_run(self):
        self.assertEqual(last(stand()), standing())
        self.assertEqual(last(begins(8), stand()), standing())
        self.assertEqual(last(group(0, 2, 2, 1), stand()), standing())

    def test_a_run_at_each_place(self):
        given = last(*EACH_STAND, stand())
        self.assertEqual(given, standing(3, 4, 6, 2, 5, 7, 1, 0))
        for stands, run in AT.items():
            self.assertEqual(given[1 + run], stands)

    def test_step_by_step(self):
        parts = ask(group(0, cuts=1), submit(0), stand(), submit(0), stand(), submit(0), stand(), ended(0), stand(),
                    cancel(2), stand(), submit(0), stand(), cancel(3), stand(), ended(2), stand())
        self.assertEqual(parts[2::2], [
            standing(1), standing(2, 0), standing(2, 5, 0), standing(6, 5, 1), standing(6, 5, 2),
            standing(6, 5, 2, 0), standing(6, 5, 2, 7), standing(6, 5, 6, 7),
        ])

    def test_passed_and_failed(self):
        self.assertEqual(last(submit(0), ended(0, 1), submit(0), ended(1, 0), stand()), standing(3, 4))

    def test_behind_a_begins_that_is_not_refused(self):
        for how_many in (1, 2, 8):
            self.assertEqual(last(*EACH_STAND, begins(how_many), stand()), standing())
        self.assertEqual(last(*EACH_STAND, begins(1), submit(0), submit(0), stand()), standing(1, 0))

    def test_behind_a_begins_that_is_refused(self):
        for how_many in (0, 9, LARGEST):
            parts = ask(*EACH_STAND, stand(), begins(how_many), stand())
            self.assertEqual(parts[-2:], [[-1], parts[-3]])

    def test_behind_other_calls_that_are_refused(self):
        for call in (group(0), submit_set(0), submit_set(4), ended(0), ended(8), cancel(0), cancel(3), cancel(8),
                     why(0), why(8), members(2)):
            parts = ask(*EACH_STAND, stand(), call, stand())
            self.assertLess(parts[-2][0], 0)
            self.assertEqual(parts[-1], parts[-3])

    def test_fifty_runs(self):
        self.assertEqual(last(*[submit(0)] * 50, stand()), standing(1, *[5] * 48, 0))
        self.assertEqual(last(*[submit(0)] * 50, submit(0), stand()), standing(1, *[5] * 48, 0))

    def test_it_changes_nothing(self):
        behind = [submit(0, 1), ended(AT[2]), cancel(AT[1]), cancel(AT[0]), ended(AT[1])]
        plain = ask(*EACH_STAND, *behind)[len(EACH_STAND):]
        parts = ask(*EACH_STAND, stand(), stand(), *behind)[len(EACH_STAND):]
        self.assertEqual(parts[0], parts[1])
        self.assertEqual(parts[2:], plain)


if __name__ == "__main__":
    unittest.main()
