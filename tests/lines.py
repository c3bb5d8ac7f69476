"""Ways to write a line of calls, and to read its answers one by one."""

from groupqueue.runs import answers

LARGEST = 4294967295


def begins(groups):
    return [0, groups]


def group(number, most=1, keep=1, cuts=0):
    return [1, number, most, keep, cuts]


def submit_set(group_set):
    return [2, group_set]


def submit(*numbers):
    return submit_set(sum(1 << number for number in numbers))


def ended(run, passed=1):
    return [3, run, passed]


def cancel(run):
    return [4, run]


def stand():
    return [5]


def why(run):
    return [6, run]


def members(number):
    return [7, number]


def flat(calls):
    return [number for call in calls for number in call]


def split(given):
    """The answers, each a list, of what answers() gave back."""
    parts = []
    place = 0
    while place < len(given):
        behind = place + 1 + given[place]
        if given[place] < 1 or behind > len(given):
            raise ValueError(f"not the form of answers: {given}")
        parts.append(given[place + 1:behind])
        place = behind
    return parts


def ask(*calls):
    return split(answers(flat(calls)))


def last(*calls):
    return ask(*calls)[-1]


def submitted(number, pushed_out=(), begun=(), told=()):
    """What submit answers."""
    return [number, len(pushed_out), *pushed_out, len(begun), *begun, len(told), *told]


def stands_then(stands, begun=()):
    """What ended and cancel answer."""
    return [stands, len(begun), *begun]


def standing(*stands):
    """What stand answers."""
    return [len(stands), *stands]


def because(holding):
    """What why answers, of a dict from each group that holds back to the older runs of it that are here."""
    return flat([[len(holding)], *[[number, len(runs), *runs] for number, runs in holding.items()]])


def belonging(stands):
    """What members answers, of a dict from each run to where it stands."""
    return flat([[len(stands)], *stands.items()])


def look_round(runs, groups):
    """Calls that show all that can be seen of a house with so many runs and groups, and change nothing."""
    return [stand(), *[why(run) for run in range(runs)], *[members(number) for number in range(groups)]]


# Behind these calls a run stands at each place: AT tells which one.
EACH_STAND = [begins(2), group(1, cuts=1), submit(0), ended(0, 1), submit(0), ended(1, 0), submit(1), submit(1),
              ended(2), submit(1), submit(1), cancel(5), submit(0), submit(0)]
AT = {0: 7, 1: 6, 2: 3, 3: 0, 4: 1, 5: 4, 6: 2, 7: 5}
OVER = (3, 4, 5, 6, 7)

# Five groups of four that run: 20 runs are here behind these.
TWENTY_HERE = [begins(6), *[group(number, most=4) for number in range(5)],
               *[submit(number) for number in range(5) for time in range(4)]]
