"""Calls on an ice house: read from one list, answered in another."""

from icehouse.house import House

BEGIN = 0
BRING = 1
STRAW = 2
TAKE = 3
FACES = 4
BEST = 5
ORDER = 6
WATER = 7
LAY = 8
STACK = 9
FOLLOW = 10

# How many whole numbers stand behind each call's own; begin and water have a row instead.
WIDTHS = (0, 2, 2, 1, 0, 0, 0, 0, 1, 1, 1, 0)

NO_HOUSE = -9


def answers(calls):
    """For each call how many numbers are answered, then these."""
    told = []
    house = House()
    for call in split_calls(calls):
        answer = answer_call(house, call[0], call[1:])
        told.append(len(answer))
        told.extend(answer)
    return told


def split_calls(calls):
    """The calls one by one: a list of each one's number and what it hands over, without a row's count."""
    parts = []
    at = 0
    while at < len(calls):
        number = calls[at]
        start = at + 1
        end = start + WIDTHS[number]
        if number == BEGIN or number == WATER:
            start = at + 2
            end = start + calls[at + 1]
        parts.append([number] + calls[start:end])
        at = end
    return parts


def answer_call(house, number, given):
    """What the call of that number answers, with what is handed over."""
    if number == BEGIN:
        return house.begin(given)
    if not house.stands():
        return [NO_HOUSE]
    if number == BRING:
        return house.bring(given[0], given[1])
    if number == STRAW:
        return house.set_straw(given[0], given[1])
    if number == TAKE:
        return house.take(given[0])
    if number == FACES:
        return house.faces()
    if number == BEST:
        return house.best()
    if number == ORDER:
        return house.order()
    if number == WATER:
        return house.water(given)
    if number == LAY:
        return house.lay(given[0])
    if number == STACK:
        return house.stack(given[0])
    if number == FOLLOW:
        return house.follow(given[0])
    # WIDTHS knows no other call, so this one is look.
    return house.look()
