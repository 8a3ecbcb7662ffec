"""Answers a line of calls about one glasshouse."""

from glasshelpers.glasshouse import Glasshouse

BEGINS = 0
EATS = 1
COST = 2
WEEKS = 3
BEST = 4
GOES = 5
ROW = 6


class UnknownCall(ValueError):
    pass


def answer(glasshouse, call, numbers):
    if call == BEGINS:
        return glasshouse.begins(numbers[0], numbers[1])
    if call == EATS:
        return glasshouse.eats(numbers[0], numbers[1])
    if call == COST:
        return glasshouse.cost(numbers[0], numbers[1])
    if call == WEEKS:
        return glasshouse.weeks(numbers[0])
    if call == BEST:
        return glasshouse.best()
    if call == GOES:
        return glasshouse.goes(numbers)
    if call == ROW:
        return glasshouse.row()
    raise UnknownCall(f"no call has the number {call}")


def answers(calls):
    glasshouse = Glasshouse()
    given = []
    place = 0
    while place < len(calls):
        first = place + 2
        behind = first + calls[place + 1]
        answered = answer(glasshouse, calls[place], calls[first:behind])
        given.append(len(answered))
        given.extend(answered)
        # No call has lists, so behind its numbers stands only that there are none.
        place = behind + 1
    return given
