"""Ways to write a line of calls, and to read its answers one by one."""

from groupqueue.runs import answers

LARGEST = 4294967295


def begins(groups):
    return [0, groups]


def group(number, most=1, keep=1, cuts=0):
    return [1, number, most, keep, cuts]


def submit_set(group_set):
    return [2, group_set]


def submit(*numbers):
    return submit_set(sum(1 << number for number in numbers))


def ended(run, passed=1):
    return [3, run, passed]


def flat(calls):
    return [number for call in calls for number in call]


def split(given):
    """The answers, each a list, of what answers() gave back."""
    parts = []
    place = 0
    while place < len(given):
        behind = place + 1 + given[place]
        if given[place] < 1 or behind > len(given):
            raise ValueError(f"not the form of answers: {given}")
        parts.append(given[place + 1:behind])
        place = behind
    return parts


def ask(*calls):
    return split(answers(flat(calls)))


def last(*calls):
    return ask(*calls)[-1]


def submitted(number, pushed_out=(), begun=(), told=()):
    """What submit answers."""
    return [number, len(pushed_out), *pushed_out, len(begun), *begun, len(told), *told]


def has_ended(stands, begun=()):
    """What ended answers."""
    return [stands, len(begun), *begun]
