"""What the calls answer, by the document's words over Python's sets, and glasshouses to ask about."""

import itertools


def members(number):
    return {kind for kind in range(6) if number // 2 ** kind % 2 == 1}


def number_of(group):
    return sum(2 ** kind for kind in group)


def behind_week(pests, pairs, there):
    eaten = {other for kind, other in pairs if kind in there}
    fed = {kind for kind, other in pairs if kind in there and other in there}
    return {kind for kind in there if kind not in eaten and (kind in members(pests) or kind in fed)}


def helper_sets(kinds, pests):
    return [helpers for helpers in range(2 ** kinds) if not members(helpers) & members(pests)]


def told_weeks(pests, pairs, helpers):
    there = members(pests) | members(helpers)
    seen = [number_of(there)]
    while behind_week(pests, pairs, there) != there:
        there = behind_week(pests, pairs, there)
        seen.append(number_of(there))
    return [len(seen) - 1] + seen


def told_best(kinds, pests, pairs, costs):
    rid = {}
    for helpers in helper_sets(kinds, pests):
        there = members(pests) | members(helpers)
        for _ in range(kinds):
            there = behind_week(pests, pairs, there)
        if not there & members(pests):
            rid[helpers] = sum(costs[kind] for kind in members(helpers))
    if not rid:
        return [-6]
    cheapest = min(rid.values())
    sets = [helpers for helpers in rid if rid[helpers] == cheapest]
    return [cheapest, len(sets), min(sets)]


def behind_choice(kinds, pests, pairs, there, choice):
    return behind_week(pests, pairs, there | ({choice} - {kinds}))


def told_goes(kinds, pests, pairs, choices):
    if len(choices) > 20 or max(choices, default=0) > kinds:
        return [-1]
    if members(pests) & set(choices):
        return [-4]
    there = members(pests)
    seen = [pests]
    for choice in choices:
        there = behind_choice(kinds, pests, pairs, there, choice)
        seen.append(number_of(there))
    return [0 if there & members(pests) else 1] + seen


def told_row(kinds, pests, pairs):
    """Week by week: of all rows of so many weeks the earliest to each set, as Python compares tuples."""
    choices = [choice for choice in range(kinds + 1) if choice not in members(pests)]
    rows = {frozenset(members(pests)): ()}
    known = set(rows)
    for weeks in range(2 ** kinds + 1):
        leading = [row for there, row in rows.items() if not there & members(pests)]
        if leading:
            return [weeks, *min(leading)]
        longer = {}
        for there, row in rows.items():
            for choice in choices:
                reached = frozenset(behind_choice(kinds, pests, pairs, there, choice))
                longer[reached] = min(longer.get(reached, row + (choice,)), row + (choice,))
        if set(longer) <= known:
            return [-6]
        known |= set(longer)
        rows = longer
    raise AssertionError("there are no more sets than that")


def pairs_of(kinds, choice):
    every = [(kind, other) for kind in range(kinds) for other in range(kinds) if kind != other]
    return [pair for place, pair in enumerate(every) if choice // 2 ** place % 2 == 1]


def small_houses():
    """Every glasshouse of up to three kinds: kinds, pests, who eats whom."""
    for kinds in (1, 2, 3):
        for pests in range(2 ** kinds):
            for choice in range(2 ** (kinds * (kinds - 1))):
                yield kinds, pests, pairs_of(kinds, choice)


def large_houses():
    """Many glasshouses of four to six kinds."""
    for kinds in (4, 5, 6):
        for count in range(300):
            # Two choices laid over one another, so that few eat and chains are long.
            choice = (count * 2654435761) & (count * 40503 * 65539 + 12345) & (2 ** 30 - 1)
            yield kinds, count * 37 % 2 ** kinds, pairs_of(kinds, choice)


def even_houses():
    """Many glasshouses of three pests and three helpers, in which no pest eats a pest: rows are longest there."""
    for count, pests in enumerate(itertools.combinations(range(6), 3)):
        helpers = [kind for kind in range(6) if kind not in pests]
        eaten = [(helper, pest) for helper in helpers for pest in pests]
        harm = [(kind, helper) for kind in range(6) for helper in helpers if kind != helper]
        for choice in range(count, 512, 13):
            pairs = [pair for place, pair in enumerate(eaten) if choice // 2 ** place % 2 == 1]
            yield 6, number_of(pests), pairs + harm[choice % 7::4]
