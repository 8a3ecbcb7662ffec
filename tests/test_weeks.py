"""The week's words, and point 2 as far as it speaks of weeks."""

import unittest

from asking import LARGEST, ask, begins, eats, weeks

# Greenfly 0 and ants 1 are pests; ladybirds 2, wasps 3 and hunters 4 are helpers.
TALE = [begins(5, 3), eats(2, 0), eats(1, 2), eats(3, 1), eats(4, 3)]


def members(number):
    return {kind for kind in range(6) if number // 2 ** kind % 2 == 1}


def number_of(group):
    return sum(2 ** kind for kind in group)


def told_weeks(pests, pairs, helpers):
    """What weeks answers, by the document's words over Python's sets."""
    there = members(pests) | members(helpers)
    seen = [number_of(there)]
    while True:
        eaten = {other for kind, other in pairs if kind in there}
        fed = {kind for kind, other in pairs if other in there}
        later = {kind for kind in there if kind not in eaten and (kind in members(pests) or kind in fed)}
        if later == there:
            return [len(seen) - 1] + seen
        there = later
        seen.append(number_of(there))


class Weeks(unittest.TestCase):
    def check_tale(self, helpers, answered):
        self.assertEqual(ask(*TALE, weeks(helpers))[-1], answered)

    def test_nothing_changes_without_helpers(self):
        self.check_tale(0, [0, 3])

    def test_one_week_in_which_something_changes(self):
        self.check_tale(4, [1, 7, 2])

    def test_two_weeks_in_which_something_changes(self):
        self.check_tale(8, [2, 11, 9, 1])

    def test_a_helper_that_finds_nothing_to_eat_is_gone(self):
        self.check_tale(16, [1, 19, 3])
        self.check_tale(20, [1, 23, 2])

    def test_what_is_gone_at_the_end_has_eaten_and_was_food(self):
        self.check_tale(12, [2, 15, 8, 0])
        self.check_tale(24, [2, 27, 17, 1])
        self.check_tale(28, [2, 31, 16, 0])

    def test_two_that_eat_each_other_are_both_gone(self):
        asked = ask(begins(2, 0), eats(0, 1), eats(1, 0), weeks(3), weeks(1))
        self.assertEqual(asked[-2:], [[1, 3, 0], [1, 1, 0]])

    def test_a_ring_eats_itself_up(self):
        ring = [eats(kind, (kind + 1) % 6) for kind in range(6)]
        self.assertEqual(ask(begins(6, 9), *ring, weeks(54), weeks(0))[-2:], [[1, 63, 0], [0, 9]])

    def test_no_pests(self):
        asked = ask(begins(6, 0), weeks(0), weeks(63), eats(5, 0), weeks(33), weeks(63))
        self.assertEqual(asked, [[0], [0, 0], [1, 63, 0], [1], [2, 33, 32, 0], [2, 63, 32, 0]])

    def test_all_kinds_are_pests(self):
        asked = ask(begins(6, 63), weeks(0), eats(0, 1), weeks(0), eats(1, 2), weeks(0), weeks(1), weeks(63))
        self.assertEqual(asked, [[0], [0, 63], [1], [1, 63, 61], [2], [1, 63, 57], [-4], [-4]])

    def test_pests_need_nothing_to_eat_but_may_be_eaten(self):
        asked = ask(begins(3, 3), eats(0, 2), weeks(0), weeks(4), eats(2, 1), weeks(4))
        self.assertEqual(asked[2:], [[0, 3], [1, 7, 3], [2], [1, 7, 1]])

    def test_asking_changes_nothing(self):
        asked = ask(*TALE, weeks(12), weeks(12), weeks(0), weeks(12))
        self.assertEqual(asked[5:], [[2, 15, 8, 0], [2, 15, 8, 0], [0, 3], [2, 15, 8, 0]])


class Refused(unittest.TestCase):
    def test_no_set_of_these_kinds(self):
        for kinds in range(1, 7):
            for helpers in (2 ** kinds, 2 ** kinds + 1, 2 ** 31, LARGEST):
                self.assertEqual(ask(begins(kinds, 0), weeks(helpers)), [[0], [-1]])

    def test_a_pest_is_in_it(self):
        asked = ask(begins(3, 5), weeks(1), weeks(4), weeks(3), weeks(6), weeks(7), weeks(2))
        self.assertEqual(asked, [[0], [-4], [-4], [-4], [-4], [-4], [1, 7, 5]])

    def test_of_several_refusals_the_one_told_first(self):
        self.assertEqual(ask(begins(2, 1), weeks(5), weeks(LARGEST)), [[0], [-1], [-1]])

    def test_all_is_as_it_was_behind_a_refusal(self):
        asked = ask(*TALE, weeks(32), weeks(1), weeks(12), eats(4, 3), eats(3, 4))
        self.assertEqual(asked[5:], [[-1], [-4], [2, 15, 8, 0], [-4], [5]])


class AgainstTheWords(unittest.TestCase):
    def check(self, kinds, pests, pairs, sets):
        told = [begins(kinds, pests)] + [eats(kind, other) for kind, other in pairs]
        answered = ask(*told, *[weeks(helpers) for helpers in sets])[len(told):]
        self.assertEqual(answered, [told_weeks(pests, pairs, helpers) for helpers in sets])

    def pairs_of(self, kinds, choice):
        every = [(kind, other) for kind in range(kinds) for other in range(kinds) if kind != other]
        return [pair for place, pair in enumerate(every) if choice // 2 ** place % 2 == 1]

    def sets_beside(self, kinds, pests):
        return [helpers for helpers in range(2 ** kinds) if helpers & pests == 0]

    def test_every_glasshouse_of_up_to_three_kinds(self):
        for kinds in (1, 2, 3):
            for pests in range(2 ** kinds):
                for choice in range(2 ** (kinds * (kinds - 1))):
                    self.check(kinds, pests, self.pairs_of(kinds, choice), self.sets_beside(kinds, pests))

    def test_many_glasshouses_of_four_to_six_kinds(self):
        for kinds in (4, 5, 6):
            for count in range(300):
                # Two choices laid over one another, so that few eat and chains are long.
                choice = (count * 2654435761) & (count * 40503 * 65539 + 12345) & (2 ** 30 - 1)
                pests = count * 37 % 2 ** kinds
                sets = self.sets_beside(kinds, pests)
                self.check(kinds, pests, self.pairs_of(kinds, choice), sets[:29])
                self.check(kinds, pests, self.pairs_of(kinds, choice), sets[-29:])


if __name__ == "__main__":
    unittest.main()
