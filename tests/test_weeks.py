"""The week's words, and point 2 as far as it speaks of weeks."""

import unittest

from asking import LARGEST, ask, begins, eats, house, weeks
from words import helper_sets, large_houses, small_houses, told_weeks

# Greenfly 0 and ants 1 are pests; ladybirds 2, wasps 3 and hunters 4 are helpers.
TALE = [begins(5, 3), eats(2, 0), eats(1, 2), eats(3, 1), eats(4, 3)]


class Weeks(unittest.TestCase):
    def check_tale(self, helpers, answered):
        self.assertEqual(ask(*TALE, weeks(helpers))[-1], answered)

    def test_nothing_changes_without_helpers(self):
        self.check_tale(0, [0, 3])

    def test_one_week_in_which_something_changes(self):
        self.check_tale(4, [1, 7, 2])

    def test_two_weeks_in_which_something_changes(self):
        self.check_tale(8, [2, 11, 9, 1])

    def test_a_helper_that_finds_nothing_to_eat_is_gone(self):
        self.check_tale(16, [1, 19, 3])
        self.check_tale(20, [1, 23, 2])

    def test_what_is_gone_at_the_end_has_eaten_and_was_food(self):
        self.check_tale(12, [2, 15, 8, 0])
        self.check_tale(24, [2, 27, 17, 1])
        self.check_tale(28, [2, 31, 16, 0])

    def test_two_that_eat_each_other_are_both_gone(self):
        asked = ask(begins(2, 0), eats(0, 1), eats(1, 0), weeks(3), weeks(1))
        self.assertEqual(asked[-2:], [[1, 3, 0], [1, 1, 0]])

    def test_a_ring_eats_itself_up(self):
        ring = [eats(kind, (kind + 1) % 6) for kind in range(6)]
        self.assertEqual(ask(begins(6, 9), *ring, weeks(54), weeks(0))[-2:], [[1, 63, 0], [0, 9]])

    def test_no_pests(self):
        asked = ask(begins(6, 0), weeks(0), weeks(63), eats(5, 0), weeks(33), weeks(63))
        self.assertEqual(asked, [[0], [0, 0], [1, 63, 0], [1], [2, 33, 32, 0], [2, 63, 32, 0]])

    def test_all_kinds_are_pests(self):
        asked = ask(begins(6, 63), weeks(0), eats(0, 1), weeks(0), eats(1, 2), weeks(0), weeks(1), weeks(63))
        self.assertEqual(asked, [[0], [0, 63], [1], [1, 63, 61], [2], [1, 63, 57], [-4], [-4]])

    def test_pests_need_nothing_to_eat_but_may_be_eaten(self):
        asked = ask(begins(3, 3), eats(0, 2), weeks(0), weeks(4), eats(2, 1), weeks(4))
        self.assertEqual(asked[2:], [[0, 3], [1, 7, 3], [2], [1, 7, 1]])

    def test_asking_changes_nothing(self):
        asked = ask(*TALE, weeks(12), weeks(12), weeks(0), weeks(12))
        self.assertEqual(asked[5:], [[2, 15, 8, 0], [2, 15, 8, 0], [0, 3], [2, 15, 8, 0]])


class Refused(unittest.TestCase):
    def test_no_set_of_these_kinds(self):
        for kinds in range(1, 7):
            for helpers in (2 ** kinds, 2 ** kinds + 1, 2 ** 31, LARGEST):
                self.assertEqual(ask(begins(kinds, 0), weeks(helpers)), [[0], [-1]])

    def test_a_pest_is_in_it(self):
        asked = ask(begins(3, 5), weeks(1), weeks(4), weeks(3), weeks(6), weeks(7), weeks(2))
        self.assertEqual(asked, [[0], [-4], [-4], [-4], [-4], [-4], [1, 7, 5]])

    def test_of_several_refusals_the_one_told_first(self):
        self.assertEqual(ask(begins(2, 1), weeks(5), weeks(LARGEST)), [[0], [-1], [-1]])

    def test_all_is_as_it_was_behind_a_refusal(self):
        asked = ask(*TALE, weeks(32), weeks(1), weeks(12), eats(4, 3), eats(3, 4))
        self.assertEqual(asked[5:], [[-1], [-4], [2, 15, 8, 0], [-4], [5]])


class AgainstTheWords(unittest.TestCase):
    def check(self, kinds, pests, pairs, sets):
        told = house(kinds, pests, pairs)
        answered = ask(*told, *[weeks(helpers) for helpers in sets])[len(told):]
        self.assertEqual(answered, [told_weeks(pests, pairs, helpers) for helpers in sets])

    def test_every_glasshouse_of_up_to_three_kinds(self):
        for kinds, pests, pairs in small_houses():
            self.check(kinds, pests, pairs, helper_sets(kinds, pests))

    def test_many_glasshouses_of_four_to_six_kinds(self):
        for kinds, pests, pairs in large_houses():
            sets = helper_sets(kinds, pests)
            self.check(kinds, pests, pairs, sets[:29])
            self.check(kinds, pests, pairs, sets[-29:])


if __name__ == "__main__":
    unittest.main()
