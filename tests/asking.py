"""Writes calls as the interface tells them, and parts what is answered, call by call."""

from glasshelpers.house import answers

LARGEST = 4294967295


def begins(kinds, pests):
    return [0, 2, kinds, pests, 0]


def eats(kind, other):
    return [1, 2, kind, other, 0]


def cost(helper, price):
    return [2, 2, helper, price, 0]


def weeks(helpers):
    return [3, 1, helpers, 0]


def best():
    return [4, 0, 0]


def goes(*choices):
    return [5, len(choices), *choices, 0]


def row():
    return [6, 0, 0]


def house(kinds, pests, pairs):
    return [begins(kinds, pests)] + [eats(kind, other) for kind, other in pairs]


def line(*calls):
    return [number for call in calls for number in call]


def part(given):
    parts = []
    place = 0
    while place < len(given):
        behind = place + 1 + given[place]
        parts.append(given[place + 1:behind])
        place = behind
    assert place == len(given), given
    return parts


def ask(*calls):
    return part(answers(line(*calls)))


def ask_last(*calls):
    return ask(*calls)[-1]
