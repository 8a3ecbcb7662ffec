"""A glasshouse: its kinds, who eats whom, and what helpers cost.

A set of kinds is a number. Each call gives back the list of numbers that it answers.
"""

MOST_KINDS = 6
MOST_COST = 1000
MOST_WEEKS = 20

BAD_NUMBER = -1
NOT_THERE = -2
NOT_ALLOWED = -4
NO_WAY = -6


def holds(group, kind):
    return (group >> kind) & 1 == 1


class Glasshouse:
    def __init__(self):
        self.renew(1, 0)

    def renew(self, kinds, pests):
        self.kinds = kinds
        self.pests = pests
        self.prey = [0 for kind in range(kinds)]
        self.told = 0
        self.costs = [0 for kind in range(kinds)]

    def begins(self, kinds, pests):
        # How many kinds is asked first: a shift by a number of any size could not be paid for.
        if kinds == 0 or kinds > MOST_KINDS or pests >= 1 << kinds:
            return [BAD_NUMBER]
        self.renew(kinds, pests)
        return [0]

    def eats(self, kind, other):
        if kind >= self.kinds or other >= self.kinds:
            return [NOT_THERE]
        if kind == other or holds(self.prey[kind], other):
            return [NOT_ALLOWED]
        self.prey[kind] = self.prey[kind] | (1 << other)
        self.told = self.told + 1
        return [self.told]

    def cost(self, helper, price):
        if helper >= self.kinds:
            return [NOT_THERE]
        if price > MOST_COST:
            return [BAD_NUMBER]
        if holds(self.pests, helper):
            return [NOT_ALLOWED]
        self.costs[helper] = price
        return [0]

    def weeks(self, helpers):
        if helpers >= 1 << self.kinds:
            return [BAD_NUMBER]
        if helpers & self.pests != 0:
            return [NOT_ALLOWED]
        there = helpers | self.pests
        seen = [there]
        later = self.after_week(there)
        # Nothing is let loose on the way, so a week without a change is followed by none with one.
        while later != there:
            seen.append(later)
            there = later
            later = self.after_week(there)
        return [len(seen) - 1] + seen

    def after_week(self, there):
        eaten = 0
        # Pests need nothing to eat.
        fed = self.pests
        for kind in range(self.kinds):
            if holds(there, kind):
                eaten = eaten | self.prey[kind]
                if self.prey[kind] & there != 0:
                    fed = fed | (1 << kind)
        return there & fed & ~eaten

    def best(self):
        least = None
        sets = []
        for helpers in range(1 << self.kinds):
            if helpers & self.pests == 0 and self.rids(helpers):
                price = self.price_of(helpers)
                if least is None or price < least:
                    least = price
                    sets = []
                if price == least:
                    sets.append(helpers)
        if least is None:
            return [NO_WAY]
        # The sets were tried from the lowest number on, so the first of them is the least.
        return [least, len(sets), sets[0]]

    def rids(self, helpers):
        there = helpers | self.pests
        for week in range(self.kinds):
            there = self.after_week(there)
        return self.free_of_pests(there)

    def price_of(self, helpers):
        return sum([self.costs[kind] for kind in range(self.kinds) if holds(helpers, kind)])

    def free_of_pests(self, there):
        return there & self.pests == 0

    def goes(self, choices):
        if len(choices) > MOST_WEEKS or any([choice > self.kinds for choice in choices]):
            return [BAD_NUMBER]
        if any([holds(self.pests, choice) for choice in choices]):
            return [NOT_ALLOWED]
        there = self.pests
        seen = [there]
        for choice in choices:
            there = self.after_choice(there, choice)
            seen.append(there)
        return [1 if self.free_of_pests(there) else 0] + seen

    def after_choice(self, there, choice):
        # The number of kinds stands for none.
        if choice < self.kinds:
            there = there | (1 << choice)
        return self.after_week(there)

    def row(self):
        rows = {self.pests: []}
        newest = [self.pests]
        while len(newest) > 0:
            for there in newest:
                if self.free_of_pests(there):
                    return [len(rows[there])] + rows[there]
            newest = self.lengthen(rows, newest)
        return [NO_WAY]

    def lengthen(self, rows, newest):
        choices = [choice for choice in range(self.kinds + 1) if not holds(self.pests, choice)]
        reached = []
        # The newest sets stand in the order of their rows, and lower choices are tried first: so the first row that
        # reaches a set is its earliest, and what is reached stands in the order of its rows again.
        for there in newest:
            for choice in choices:
                later = self.after_choice(there, choice)
                if later not in rows:
                    rows[later] = rows[there] + [choice]
                    reached.append(later)
        return reached
