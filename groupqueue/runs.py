"""The calls on one house, handed in as one list of numbers, and their answers as another."""

from groupqueue.house import House

BEGINS = 0
GROUP = 1
SUBMIT = 2
ENDED = 3
CANCEL = 4
STAND = 5
WHY = 6

NUMBERS_BEHIND = (1, 4, 1, 2, 1, 0, 1, 1)


def answer(house, call, numbers):
    if call == BEGINS:
        return house.begins(numbers[0])
    if call == GROUP:
        return house.group(numbers[0], numbers[1], numbers[2], numbers[3])
    if call == SUBMIT:
        return house.submit(numbers[0])
    if call == ENDED:
        return house.ended(numbers[0], numbers[1])
    if call == CANCEL:
        return house.cancel(numbers[0])
    if call == STAND:
        return house.stand()
    if call == WHY:
        return house.why(numbers[0])
    # Only members, 7, is left: no other number of a call is handed in.
    return house.members(numbers[0])


def answers(calls):
    """Answer each call in order on a new house: how many numbers it answers, then these."""
    house = House()
    given = []
    place = 0
    while place < len(calls):
        call = calls[place]
        behind = place + 1 + NUMBERS_BEHIND[call]
        numbers = answer(house, call, calls[place + 1:behind])
        given.append(len(numbers))
        given.extend(numbers)
        place = behind
    return given
