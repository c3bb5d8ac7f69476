"""members: what it refuses, and which runs of a group are here."""

import unittest

from tests.lines import (EACH_STAND, LARGEST, TWENTY_HERE, ask, begins, belonging, cancel, ended, group, last, members,
                         submit, submit_set)


class MembersRefused(unittest.TestCase):
    def test_no_such_group(self):
        for how_many in range(1, 9):
            self.assertEqual(last(begins(how_many), members(how_many - 1)), belonging({}))
            for number in (how_many, how_many + 1, 31, LARGEST):
                self.assertEqual(last(begins(how_many), members(number)), [-2])

    def test_at_the_beginning(self):
        self.assertEqual(ask(members(0), members(1), members(LARGEST)), [belonging({}), [-2], [-2]])

    def test_a_group_that_a_begins_has_taken_away(self):
        parts = ask(begins(3), submit(2), members(2), begins(2), members(2), members(1))
        self.assertEqual(parts[2:], [belonging({0: 1}), [0], [-2], belonging({})])

    def test_a_refused_begins_takes_none_away(self):
        for how_many in (0, 9, LARGEST):
            self.assertEqual(last(begins(3), submit(2), begins(how_many), members(2)), belonging({0: 1}))

    def test_a_group_of_a_refused_submit(self):
        self.assertEqual(last(begins(2), submit(0, 2), members(0)), belonging({}))


class RunsThatAreHere(unittest.TestCase):
    def test_none(self):
        parts = ask(begins(2), submit(0), members(1), ended(0), members(0))
        self.assertEqual((parts[2], parts[4]), (belonging({}), belonging({})))

    def test_one(self):
        self.assertEqual(last(submit(0), members(0)), belonging({0: 1}))

    def test_rising_with_where_each_stands(self):
        parts = ask(group(0, most=3, keep=8), *[submit(0)] * 5, cancel(1), members(0))
        self.assertEqual(parts[-1], belonging({0: 1, 1: 2, 2: 1, 3: 0, 4: 0}))

    def test_told_to_stop_by_a_submit(self):
        parts = ask(group(0, most=2, cuts=1), *[submit(0)] * 3, members(0))
        self.assertEqual(parts[-1], belonging({0: 2, 1: 2, 2: 0}))

    def test_not_those_that_are_over(self):
        parts = ask(*EACH_STAND, members(0), members(1))
        self.assertEqual(parts[-2:], [belonging({6: 1, 7: 0}), belonging({3: 2})])

    def test_not_one_that_is_over_now(self):
        for call in (ended(0, 0), ended(0, 1)):
            self.assertEqual(last(submit(0), submit(0), call, members(0)), belonging({1: 1}))
        self.assertEqual(last(submit(0), submit(0), cancel(1), members(0)), belonging({0: 1}))
        self.assertEqual(last(submit(0), submit(0), submit(0), members(0)), belonging({0: 1, 2: 0}))
        self.assertEqual(last(submit(0), cancel(0), ended(0), members(0)), belonging({}))

    def test_not_those_of_other_groups(self):
        parts = ask(begins(2), submit(0), submit(1), submit(0), members(0), members(1))
        self.assertEqual(parts[-2:], [belonging({0: 1, 2: 0}), belonging({1: 1})])

    def test_one_of_several_groups_is_told_in_each(self):
        calls = [begins(8), submit(0, 2, 7), submit(2, 3)]
        self.assertEqual(ask(*calls, *[members(number) for number in range(8)])[3:], [
            belonging({0: 1}), belonging({}), belonging({0: 1, 1: 0}), belonging({1: 0}),
            belonging({}), belonging({}), belonging({}), belonging({0: 1}),
        ])

    def test_one_of_all_eight_groups(self):
        calls = [begins(8), submit_set(255)]
        self.assertEqual(ask(*calls, *[members(number) for number in range(8)])[2:], [belonging({0: 1})] * 8)

    def test_twenty_here(self):
        parts = ask(*TWENTY_HERE, *[members(number) for number in range(6)])[len(TWENTY_HERE):]
        four = [belonging({run: 1 for run in range(4 * number, 4 * number + 4)}) for number in range(5)]
        self.assertEqual(parts, [*four, belonging({})])

    def test_twenty_here_in_one_group(self):
        calls = [begins(3), group(0, most=4, keep=8), group(1, most=4, keep=8), group(2, most=4, keep=8),
                 *[submit(0, 1)] * 12, *[submit(0, 2)] * 8, members(0)]
        self.assertEqual(last(*calls), belonging({run: 1 if run < 4 else 0 for run in range(20)}))

    def test_it_changes_nothing(self):
        behind = [submit(0, 1), ended(3), cancel(6), ended(6)]
        plain = ask(*EACH_STAND, *behind)[len(EACH_STAND):]
        parts = ask(*EACH_STAND, members(0), members(0), members(1), members(2), *behind)[len(EACH_STAND):]
        self.assertEqual(parts[0], parts[1])
        self.assertEqual(parts[4:], plain)


if __name__ == "__main__":
    unittest.main()
