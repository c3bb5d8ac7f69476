"""One house: its groups, its runs, and what each call changes and answers."""

WAITS = 0
RUNS = 1
TOLD_TO_STOP = 2
PASSED = 3
FAILED = 4
PUSHED_OUT = 5
STOPPED = 6
CALLED_OFF = 7

WRONG_NUMBER = -1
NOT_THERE = -2
TOO_LATE = -3
TOLD_ALREADY = -4
WRONG_STAND = -5
FULL = -7

GROUPS_LIMIT = 8
MOST_LIMIT = 4
KEEP_LIMIT = 8
HERE_LIMIT = 20
RUNS_LIMIT = 50


class Group:
    """So many run at a time, so many newer ones push out one that waits; cuts is 1 or 0."""

    def __init__(self, most, keep, cuts):
        self.most = most
        self.keep = keep
        self.cuts = cuts


class Run:
    """A run, the numbers of the groups that it belongs to, and where it stands."""

    def __init__(self, number, belongs_to):
        self.number = number
        self.belongs_to = belongs_to
        self.stands = WAITS


def plain_groups(how_many):
    return [Group(1, 1, 0) for number in range(how_many)]


def groups_in_set(group_set, how_many):
    return [number for number in range(how_many) if (group_set >> number) & 1 == 1]


def in_range(number, lowest, highest):
    return lowest <= number and number <= highest


def is_here(run):
    return run.stands <= TOLD_TO_STOP


def here_of_group(runs, group_number):
    return [run for run in runs if is_here(run) and group_number in run.belongs_to]


def runs_told(runs):
    return [len(runs)] + [run.number for run in runs]


class House:
    """Each call answers a list of numbers; a refusal is one number below 0 and changes nothing."""

    def __init__(self):
        self.groups = plain_groups(1)
        self.runs = []

    def begins(self, how_many):
        if not in_range(how_many, 1, GROUPS_LIMIT):
            return [WRONG_NUMBER]
        self.groups = plain_groups(how_many)
        self.runs = []
        return [0]

    def group(self, number, most, keep, cuts):
        if number >= len(self.groups):
            return [NOT_THERE]
        if len(self.runs) > 0:
            return [TOO_LATE]
        if not (in_range(most, 1, MOST_LIMIT) and in_range(keep, 1, KEEP_LIMIT) and in_range(cuts, 0, 1)):
            return [WRONG_NUMBER]
        self.groups[number] = Group(most, keep, cuts)
        return [0]

    def submit(self, group_set):
        if group_set == 0 or group_set >> len(self.groups) != 0:
            return [WRONG_NUMBER]
        if self.is_full():
            return [FULL]
        # Taken down ahead of the new run: one that begins only now is not told to stop.
        ran_before = self.runs_that_stand(RUNS)
        number = len(self.runs)
        self.runs.append(Run(number, groups_in_set(group_set, len(self.groups))))
        pushed_out = self.push_out()
        begun = self.begin_to_run()
        told = self.tell_to_stop(ran_before)
        return [number] + runs_told(pushed_out) + runs_told(begun) + runs_told(told)

    def ended(self, number, passed):
        if number >= len(self.runs):
            return [NOT_THERE]
        run = self.runs[number]
        if run.stands == TOLD_TO_STOP:
            run.stands = STOPPED
        elif run.stands == RUNS:
            run.stands = FAILED if passed == 0 else PASSED
        else:
            return [WRONG_STAND]
        return [run.stands] + runs_told(self.begin_to_run())

    def cancel(self, number):
        if number >= len(self.runs):
            return [NOT_THERE]
        run = self.runs[number]
        if run.stands == TOLD_TO_STOP:
            return [TOLD_ALREADY]
        if not is_here(run):
            return [WRONG_STAND]
        run.stands = CALLED_OFF if run.stands == WAITS else TOLD_TO_STOP
        # Behind one that is told to stop none begins: it is here still and holds back as before.
        return [run.stands] + runs_told(self.begin_to_run())

    def stand(self):
        return [len(self.runs)] + [run.stands for run in self.runs]

    def why(self, number):
        if number >= len(self.runs):
            return [NOT_THERE]
        run = self.runs[number]
        if run.stands != WAITS:
            return [WRONG_STAND]
        holding = self.groups_holding_back(run)
        told = [len(holding)]
        for group_number in holding:
            told.append(group_number)
            told.extend(runs_told(self.older_here(run, group_number)))
        return told

    def members(self, group_number):
        if group_number >= len(self.groups):
            return [NOT_THERE]
        here = here_of_group(self.runs, group_number)
        told = [len(here)]
        for run in here:
            told.extend([run.number, run.stands])
        return told

    def is_full(self):
        here = [run for run in self.runs if is_here(run)]
        return len(here) >= HERE_LIMIT or len(self.runs) >= RUNS_LIMIT

    def runs_that_stand(self, where):
        return [run for run in self.runs if run.stands == where]

    def push_out(self):
        # All are found before the first one goes, since they go at the same time.
        outdated = [run for run in self.runs_that_stand(WAITS) if self.is_outdated(run)]
        for run in outdated:
            run.stands = PUSHED_OUT
        return outdated

    def begin_to_run(self):
        # One that begins is here before and after, so none of these holds back another by beginning.
        free = [run for run in self.runs_that_stand(WAITS) if len(self.groups_holding_back(run)) == 0]
        for run in free:
            run.stands = RUNS
        return free

    def tell_to_stop(self, ran_before):
        told = [run for run in ran_before if self.is_cut(run)]
        for run in told:
            run.stands = TOLD_TO_STOP
        return told

    def is_outdated(self, run):
        return all([self.newer_waiting(run, number) >= self.groups[number].keep for number in run.belongs_to])

    def groups_holding_back(self, run):
        return [number for number in run.belongs_to if len(self.older_here(run, number)) >= self.groups[number].most]

    def is_cut(self, run):
        return all([self.groups[number].cuts == 1 and self.newer_waiting(run, number) > 0
                    for number in run.belongs_to])

    def newer_waiting(self, run, group_number):
        newer = self.runs[run.number + 1:]
        return len([other for other in newer if other.stands == WAITS and group_number in other.belongs_to])

    def older_here(self, run, group_number):
        return here_of_group(self.runs[:run.number], group_number)
