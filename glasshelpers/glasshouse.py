"""A glasshouse: its kinds, who eats whom, and what helpers cost.

A set of kinds is a number. Each call gives back the list of numbers that it answers.
"""

MOST_KINDS = 6
MOST_COST = 1000

BAD_NUMBER = -1
NOT_THERE = -2
NOT_ALLOWED = -4


def holds(group, kind):
    return (group >> kind) & 1 == 1


class Glasshouse:
    def __init__(self):
        self.renew(1, 0)

    def renew(self, kinds, pests):
        self.kinds = kinds
        self.pests = pests
        self.prey = [0 for kind in range(kinds)]
        self.told = 0
        self.costs = [0 for kind in range(kinds)]

    def begins(self, kinds, pests):
        # How many kinds is asked first: a shift by a number of any size could not be paid for.
        if kinds == 0 or kinds > MOST_KINDS or pests >= 1 << kinds:
            return [BAD_NUMBER]
        self.renew(kinds, pests)
        return [0]

    def eats(self, kind, other):
        if kind >= self.kinds or other >= self.kinds:
            return [NOT_THERE]
        if kind == other or holds(self.prey[kind], other):
            return [NOT_ALLOWED]
        self.prey[kind] = self.prey[kind] | (1 << other)
        self.told = self.told + 1
        return [self.told]

    def cost(self, helper, price):
        if helper >= self.kinds:
            return [NOT_THERE]
        if price > MOST_COST:
            return [BAD_NUMBER]
        if holds(self.pests, helper):
            return [NOT_ALLOWED]
        self.costs[helper] = price
        return [0]

    def weeks(self, helpers):
        if helpers >= 1 << self.kinds:
            return [BAD_NUMBER]
        if helpers & self.pests != 0:
            return [NOT_ALLOWED]
        there = helpers | self.pests
        seen = [there]
        later = self.after_week(there)
        # Nothing is let loose on the way, so a week without a change is followed by none with one.
        while later != there:
            seen.append(later)
            there = later
            later = self.after_week(there)
        return [len(seen) - 1] + seen

    def after_week(self, there):
        eaten = 0
        # Pests need nothing to eat.
        fed = self.pests
        for kind in range(self.kinds):
            if holds(there, kind):
                eaten = eaten | self.prey[kind]
                if self.prey[kind] & there != 0:
                    fed = fed | (1 << kind)
        return there & fed & ~eaten
