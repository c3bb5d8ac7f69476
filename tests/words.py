"""The words of the document, told again in another way, to hold the program's answers against."""

from tests.lines import because, belonging, standing, stands_then, submitted

WAITS, RUNS, TOLD = 0, 1, 2
HERE = (WAITS, RUNS, TOLD)


class Words:
    """The words of the document, told again with dicts and number by number."""

    def __init__(self):
        self.start(1)

    def start(self, how_many):
        self.groups = {number: (1, 1, 0) for number in range(how_many)}
        self.sets = {}
        self.stands = {}

    def of(self, number, stands):
        return [run for run in self.sets if number in self.sets[run] and self.stands[run] in stands]

    def at(self, stands):
        return [run for run in self.sets if self.stands[run] == stands]

    def begin(self):
        begun = []
        for run in self.sets:
            if self.stands[run] == WAITS and all(
                    sum(older < run for older in self.of(number, HERE)) < self.groups[number][0]
                    for number in self.sets[run]):
                begun.append(run)
        self.stands.update(dict.fromkeys(begun, RUNS))
        return begun

    def newer_wait(self, run, number):
        return sum(newer > run for newer in self.of(number, [WAITS]))

    def push(self):
        gone = []
        for run in self.sets:
            if self.stands[run] == WAITS and not [
                    number for number in self.sets[run] if self.newer_wait(run, number) < self.groups[number][1]]:
                gone.append(run)
        self.stands.update(dict.fromkeys(gone, 5))
        return gone

    def stop(self, ran):
        told = []
        for run in ran:
            if not [number for number in self.sets[run]
                    if self.groups[number][2] == 0 or self.newer_wait(run, number) == 0]:
                told.append(run)
        self.stands.update(dict.fromkeys(told, TOLD))
        return told

    def answer(self, call):
        ways = (self.begins, self.group, self.submit, self.ended, self.cancel, self.stand, self.why, self.members)
        return ways[call[0]](*call[1:])

    def begins(self, how_many):
        if how_many not in range(1, 9):
            return [-1]
        self.start(how_many)
        return [0]

    def group(self, number, most, keep, cuts):
        if number not in self.groups:
            return [-2]
        if self.sets:
            return [-3]
        if most not in range(1, 5) or keep not in range(1, 9) or cuts not in (0, 1):
            return [-1]
        self.groups[number] = (most, keep, cuts)
        return [0]

    def submit(self, group_set):
        numbers = {number for number in range(32) if group_set & 1 << number}
        if not numbers or not numbers <= set(self.groups):
            return [-1]
        if sum(stands in HERE for stands in self.stands.values()) == 20 or len(self.sets) == 50:
            return [-7]
        ran = self.at(RUNS)
        run = len(self.sets)
        self.sets[run], self.stands[run] = numbers, WAITS
        gone, begun = self.push(), self.begin()
        return submitted(run, gone, begun, self.stop(ran))

    def ended(self, run, passed):
        if run not in self.sets:
            return [-2]
        if self.stands[run] not in (RUNS, TOLD):
            return [-5]
        self.stands[run] = 6 if self.stands[run] == TOLD else 3 if passed else 4
        return stands_then(self.stands[run], self.begin())

    def cancel(self, run):
        if run not in self.sets:
            return [-2]
        if self.stands[run] == TOLD:
            return [-4]
        if self.stands[run] not in HERE:
            return [-5]
        if self.stands[run] == RUNS:
            self.stands[run] = TOLD
            return stands_then(TOLD)
        self.stands[run] = 7
        return stands_then(7, self.begin())

    def stand(self):
        return standing(*self.stands.values())

    def why(self, run):
        if run not in self.sets:
            return [-2]
        if self.stands[run] != WAITS:
            return [-5]
        older = {number: [other for other in self.of(number, HERE) if other < run] for number in sorted(self.sets[run])}
        return because({number: runs for number, runs in older.items() if len(runs) >= self.groups[number][0]})

    def members(self, number):
        if number not in self.groups:
            return [-2]
        return belonging({run: self.stands[run] for run in self.of(number, HERE)})
