"""Many made-up lines, held against the document's words and its four promises at each step."""

import random
import unittest

from tests.lines import LARGEST, ask, begins, ended, group, has_ended, submit_set, submitted

WAITS, RUNS, TOLD = 0, 1, 2
HERE = (WAITS, RUNS, TOLD)


class Words:
    """The words of the document, told again with dicts and number by number."""

    def __init__(self):
        self.start(1)

    def start(self, how_many):
        self.groups = {number: (1, 1, 0) for number in range(how_many)}
        self.sets = {}
        self.stands = {}

    def of(self, number, stands):
        return [run for run in self.sets if number in self.sets[run] and self.stands[run] in stands]

    def begin(self):
        begun = []
        for run in self.sets:
            if self.stands[run] == WAITS and all(
                    sum(older < run for older in self.of(number, HERE)) < self.groups[number][0]
                    for number in self.sets[run]):
                begun.append(run)
        self.stands.update(dict.fromkeys(begun, RUNS))
        return begun

    def newer_wait(self, run, number):
        return sum(newer > run for newer in self.of(number, [WAITS]))

    def push(self):
        gone = []
        for run in self.sets:
            if self.stands[run] == WAITS and not [
                    number for number in self.sets[run] if self.newer_wait(run, number) < self.groups[number][1]]:
                gone.append(run)
        self.stands.update(dict.fromkeys(gone, 5))
        return gone

    def stop(self, ran):
        told = []
        for run in ran:
            if not [number for number in self.sets[run]
                    if self.groups[number][2] == 0 or self.newer_wait(run, number) == 0]:
                told.append(run)
        self.stands.update(dict.fromkeys(told, TOLD))
        return told

    def answer(self, call):
        return (self.begins, self.group, self.submit, self.ended)[call[0]](*call[1:])

    def begins(self, how_many):
        if how_many not in range(1, 9):
            return [-1]
        self.start(how_many)
        return [0]

    def group(self, number, most, keep, cuts):
        if number not in self.groups:
            return [-2]
        if self.sets:
            return [-3]
        if most not in range(1, 5) or keep not in range(1, 9) or cuts not in (0, 1):
            return [-1]
        self.groups[number] = (most, keep, cuts)
        return [0]

    def submit(self, group_set):
        numbers = {number for number in range(32) if group_set & 1 << number}
        if not numbers or not numbers <= set(self.groups):
            return [-1]
        if sum(stands in HERE for stands in self.stands.values()) == 20 or len(self.sets) == 50:
            return [-7]
        ran = [run for run in self.sets if self.stands[run] == RUNS]
        run = len(self.sets)
        self.sets[run], self.stands[run] = numbers, WAITS
        gone, begun = self.push(), self.begin()
        return submitted(run, gone, begun, self.stop(ran))

    def ended(self, run, passed):
        if run not in self.sets:
            return [-2]
        if self.stands[run] not in (RUNS, TOLD):
            return [-5]
        self.stands[run] = 6 if self.stands[run] == TOLD else 3 if passed else 4
        return has_ended(self.stands[run], self.begin())


def made_up_call(rolls, how_many):
    sort = rolls.choice("ssssssseeeewwwgb")
    if sort == "s":
        picked = rolls.sample(range(how_many), rolls.randint(1, min(3, how_many)))
        return submit_set(sum(1 << number for number in picked))
    if sort in "ew":
        return ended(rolls.randint(0, 12 if sort == "e" else 30), rolls.choice((0, 1, 2, LARGEST)))
    if sort == "g":
        return group(rolls.randint(0, 8), rolls.randint(0, 5), rolls.randint(0, 9), rolls.randint(0, 2))
    return rolls.choice((begins(0), begins(9), submit_set(0), submit_set(LARGEST), submit_set(1 << how_many)))


def made_up_line(rolls):
    how_many = rolls.randint(1, 8)
    set_up = [group(number, rolls.randint(1, 4), rolls.randint(1, 4), rolls.randint(0, 1))
              for number in range(how_many)]
    line = [begins(how_many), *set_up]
    return line + [made_up_call(rolls, how_many) for time in range(60 - len(line))]


class Promises(unittest.TestCase):
    def test_made_up_lines(self):
        rolls = random.Random(20)
        for time in range(400):
            line = made_up_line(rolls)
            words = Words()
            for call, given in zip(line, ask(*line), strict=True):
                newest = {number: words.of(number, [WAITS])[-1:] for number in words.groups}
                self.assertEqual(given, words.answer(call), line)
                self.assert_promises(words, call, given, newest)

    def assert_promises(self, words, call, given, newest):
        here = [run for run in words.sets if words.stands[run] in HERE]
        for number, (most, keep, cuts) in words.groups.items():
            self.assertLessEqual(len(words.of(number, (RUNS, TOLD))), most, "never more than may")
        if here:
            self.assertNotEqual(words.stands[here[0]], WAITS, "nothing stands still")
        if call[0] == 2 and given[0] >= 0:
            gone = given[2:2 + given[1]]
            for number, runs in newest.items():
                if number not in words.sets[given[0]]:
                    self.assertFalse(set(runs) & set(gone), "the newest never lost")


if __name__ == "__main__":
    unittest.main()
