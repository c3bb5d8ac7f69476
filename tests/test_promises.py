"""Many lines of all eight calls, held against the document's words and its four promises at each step."""

import itertools
import random
import unittest

from tests.lines import (LARGEST, ask, begins, cancel, ended, group, last, look_round, members, stand, submit,
                         submit_set, why)
from tests.words import HERE, RUNS, TOLD, WAITS, Words

# How often each call is made up: s submit, e ended, c cancel, w why, m members, t stand, g group, b begins.
MIXED = "sssssssseeeccwwmtg"
BUSY = "ssssssssssssecwm"
ANY = "ssssecwmtgb"

# Each refusal that the document names: the call's number and the refusal.
REFUSALS = {(0, -1), (1, -1), (1, -2), (1, -3), (2, -1), (2, -7), (3, -2), (3, -5), (4, -2), (4, -4), (4, -5),
            (6, -2), (6, -5), (7, -2)}


def picked_run(rolls, words):
    return rolls.choice((*words.sets, *words.sets, len(words.sets), LARGEST))


def picked_group(rolls, words):
    return rolls.choice((*words.groups, *words.groups, len(words.groups), LARGEST))


def picked_set(rolls, words):
    if rolls.random() < 0.05:
        return rolls.choice((0, 1 << len(words.groups), 1 + (1 << len(words.groups)), LARGEST))
    how_many = rolls.randint(1, rolls.choice((1, 3, len(words.groups))))
    return sum(1 << number for number in rolls.sample(sorted(words.groups), min(how_many, len(words.groups))))


def made_up_call(rolls, words, sorts):
    sort = rolls.choice(sorts)
    if sort == "s":
        return submit_set(picked_set(rolls, words))
    if sort == "e":
        return ended(picked_run(rolls, words), rolls.choice((0, 1, 2, LARGEST)))
    if sort == "c":
        return cancel(picked_run(rolls, words))
    if sort == "w":
        return why(rolls.choice([picked_run(rolls, words), *words.at(WAITS)]))
    if sort == "m":
        return members(picked_group(rolls, words))
    if sort == "t":
        return stand()
    if sort == "g":
        return group(picked_group(rolls, words), rolls.randint(0, 5), rolls.randint(0, 9), rolls.randint(0, 2))
    return begins(rolls.choice((0, 1, 2, 3, 8, 9, LARGEST)))


def set_up(how_many, pick):
    return [begins(how_many), *[group(number, *pick()) for number in range(how_many)]]


def made_up_beginning(rolls):
    """The first calls of a line, and how often each call is to come behind them."""
    how_many = rolls.randint(1, 8)
    return rolls.choice((
        (set_up(how_many, lambda: (rolls.randint(1, 4), rolls.randint(1, 4), rolls.randint(0, 1))), MIXED),
        (set_up(how_many, lambda: (rolls.choice((1, 4)), rolls.choice((1, 8)), rolls.randint(0, 1))), MIXED),
        (set_up(how_many, lambda: (1, 8, rolls.randint(0, 1))), MIXED),
        (set_up(how_many, lambda: (rolls.choice((1, 4)), 8, rolls.randint(0, 1))), BUSY),
        ([], MIXED),
        ([], ANY),
    ))


class MadeUpLines(unittest.TestCase):
    def test_call_by_call(self):
        rolls = random.Random(20)
        seen = set()
        for time in range(900):
            line, expected = self.made_up_line(rolls, seen)
            self.assertEqual(ask(*line), expected, line)
        self.assertEqual({pair for pair in seen if pair[1] < 0}, REFUSALS)
        self.assertLessEqual({(3, 3), (3, 4), (3, 6), (4, 2), (4, 7)}, seen)

    def made_up_line(self, rolls, seen):
        first, sorts = made_up_beginning(rolls)
        words = Words()
        line, expected = [], []
        while len(line) < 60:
            call = first[len(line)] if len(line) < len(first) else made_up_call(rolls, words, sorts)
            newest = {number: words.of(number, [WAITS])[-1:] for number in words.groups}
            given = words.answer(call)
            self.assert_promises(words, call, given, newest)
            seen.add((call[0], given[0]))
            line.append(call)
            expected.append(given)
        return line, expected

    def assert_promises(self, words, call, given, newest):
        here = [run for run in words.sets if words.stands[run] in HERE]
        for number, (most, keep, cuts) in words.groups.items():
            self.assertLessEqual(len(words.of(number, (RUNS, TOLD))), most, "never more than may")
            for run in words.of(number, (RUNS, TOLD)):
                self.assertLess(sum(older < run for older in words.of(number, HERE)), most, "nobody overtaken")
        if here:
            self.assertNotEqual(words.stands[here[0]], WAITS, "nothing stands still")
        if call[0] == 2 and given[0] >= 0:
            gone = given[2:2 + given[1]]
            for number, runs in newest.items():
                if number not in words.sets[given[0]]:
                    self.assertFalse(set(runs) & set(gone), "the newest never lost")


class EveryShortLine(unittest.TestCase):
    """All lines of four calls behind a first submit, in houses of two groups, and all that is seen then."""

    CALLS = (submit(0), submit(1), submit(0, 1), ended(0), ended(1, 0), cancel(0), cancel(1), cancel(2))
    HOUSES = (
        [begins(2)],
        [begins(2), group(0, 1, 8, 1), group(1, 1, 8, 1)],
        [begins(2), group(0, 1, 1, 1), group(1, 4, 1, 1)],
        [begins(2), group(0, 1, 2, 0), group(1, 2, 8, 1)],
    )

    def test_all_of_them(self):
        behind = look_round(6, 2)
        for house in self.HOUSES:
            for calls in itertools.product(self.CALLS, repeat=4):
                line = [*house, submit(0, 1), *calls, *behind]
                words = Words()
                self.assertEqual(ask(*line), [words.answer(call) for call in line], line)


class NothingStandsStill(unittest.TestCase):
    def test_from_each_run_that_waits_why_leads_to_one_that_does_not(self):
        rolls = random.Random(21)
        for time in range(60):
            how_many = rolls.randint(1, 5)
            line = [begins(how_many), *[submit_set(rolls.randint(1, (1 << how_many) - 1)) for run in range(12)]]
            stands = last(*line, stand())[1:]
            for run in [run for run in range(12) if stands[run] == WAITS]:
                while stands[run] == WAITS:
                    given = last(*line, why(run))
                    self.assertGreater(given[0], 0)
                    self.assertLess(given[3], run)
                    run = given[3]
                self.assertIn(stands[run], (RUNS, TOLD))


if __name__ == "__main__":
    unittest.main()
