"""One by one: row, and where it is refused."""

import itertools
import unittest

from asking import ask, ask_last, begins, best, cost, eats, goes, house, row, weeks
from words import even_houses, large_houses, small_houses, told_goes, told_row

# Greenfly 0 and ants 1 are pests; ladybirds 2, wasps 3 and hunters 4 are helpers.
TALE = house(5, 3, [(2, 0), (1, 2), (3, 1), (4, 3)])


class Row(unittest.TestCase):
    def test_no_pests(self):
        self.assertEqual(ask(row()), [[0]])
        for kinds in range(1, 7):
            self.assertEqual(ask(begins(kinds, 0), row(), eats(0, kinds - 1), row())[1::2], [[0], [0]])

    def test_two_kinds(self):
        self.assertEqual(ask_last(*house(2, 1, [(1, 0)]), row()), [1, 1])
        self.assertEqual(ask_last(*house(2, 2, [(0, 1)]), row()), [1, 0])

    def test_three_kinds(self):
        self.assertEqual(ask_last(*house(3, 1, [(2, 0)]), row()), [1, 2])
        self.assertEqual(ask_last(*house(3, 3, [(2, 0), (2, 1)]), row()), [1, 2])

    def test_four_kinds(self):
        self.assertEqual(ask_last(*house(4, 9, [(1, 0), (2, 3), (1, 2)]), row()), [2, 1, 2])
        self.assertEqual(ask_last(*house(4, 5, [(3, 0), (1, 2)]), row()), [2, 1, 3])

    def test_five_kinds(self):
        self.assertEqual(ask_last(*TALE, row()), [2, 2, 3])
        self.assertEqual(ask_last(*TALE, eats(4, 0), eats(4, 1), row()), [1, 4])

    def test_six_kinds(self):
        self.assertEqual(ask_last(*house(6, 7, [(3, 0), (4, 1), (5, 2)]), row()), [3, 3, 4, 5])
        self.assertEqual(ask_last(*house(6, 42, [(0, 5), (2, 3), (4, 1), (0, 2), (5, 4)]), row()), [3, 0, 2, 4])
        self.assertEqual(ask_last(*house(6, 11, [(1, 4), (2, 0), (2, 4), (4, 1), (4, 2), (5, 3)]), row()), [3, 2, 4, 5])

    def test_fewest_weeks_before_lower_numbers(self):
        told = house(4, 1, [(3, 0)])
        self.assertEqual(ask_last(*told, row()), [1, 3])
        told = house(5, 3, [(2, 0), (3, 1), (4, 0), (4, 1)])
        self.assertEqual(ask_last(*told, row()), [1, 4])
        told = house(6, 7, [(3, 0), (4, 1), (5, 1), (5, 2)])
        self.assertEqual(ask_last(*told, row()), [2, 3, 5])

    def test_of_several_rows_the_earliest(self):
        self.assertEqual(ask_last(*house(3, 1, [(1, 0), (2, 0)]), row()), [1, 1])
        self.assertEqual(ask_last(*house(6, 3, [(kind, pest) for kind in (3, 4) for pest in (0, 1)]), row()), [1, 3])
        told = house(6, 3, [(5, 0), (4, 0), (3, 1), (2, 1)])
        self.assertEqual(ask_last(*told, row()), [2, 2, 4])
        told = house(6, 12, [(5, 2), (0, 3), (1, 2), (4, 3), (3, 0)])
        self.assertEqual(ask_last(*told, row()), [2, 0, 1])

    def test_what_helpers_cost_does_not_count(self):
        told = house(3, 1, [(1, 0), (2, 0)])
        self.assertEqual(ask_last(*told, cost(1, 1000), row()), [1, 1])

    def test_a_week_in_which_none_is_let_loose(self):
        for kinds in range(2, 7):
            ring = [(kind, (kind + 1) % kinds) for kind in range(kinds)]
            self.assertEqual(ask_last(*house(kinds, 2 ** kinds - 1, ring), row()), [1, kinds])
        self.assertEqual(ask_last(*house(3, 7, [(0, 1), (1, 0), (1, 2)]), row()), [1, 3])

    def test_a_helper_of_no_use_is_earlier_than_none(self):
        self.assertEqual(ask_last(*house(3, 3, [(0, 1), (1, 0)]), row()), [1, 2])
        self.assertEqual(ask_last(*house(3, 6, [(2, 1), (1, 2)]), row()), [1, 0])

    def test_pests_that_eat_pests(self):
        self.assertEqual(ask_last(*house(4, 7, [(0, 1), (1, 2), (3, 0)]), row()), [1, 3])
        self.assertEqual(ask_last(*house(5, 7, [(0, 1), (3, 0), (4, 2), (1, 4)]), row()), [2, 3, 4])

    def test_all_is_as_it_was(self):
        told = TALE + [cost(2, 5), cost(3, 7)]
        asked = ask(*told, row(), row(), weeks(12), goes(3, 2), best(), eats(4, 3), eats(3, 4), row())
        self.assertEqual(asked[7:9], [[2, 2, 3], [2, 2, 3]])
        self.assertEqual(asked[9:], [[2, 15, 8, 0], [1, 3, 9, 4], [12, 2, 12], [-4], [5], [2, 2, 3]])


class Refused(unittest.TestCase):
    def test_no_helper_eats_the_pest(self):
        for kinds in range(1, 7):
            for pest in range(kinds):
                self.assertEqual(ask(begins(kinds, 2 ** pest), row()), [[0], [-6]])

    def test_all_kinds_are_pests_and_one_stays(self):
        self.assertEqual(ask_last(*house(3, 7, [(0, 1), (1, 2)]), row()), [-6])
        self.assertEqual(ask_last(begins(6, 63), row()), [-6])

    def test_of_two_pests_one_stays_however_many_helpers_come_and_go(self):
        told = house(6, 3, [(2, 0), (3, 2), (4, 3), (5, 4), (2, 5), (1, 2), (1, 4)])
        self.assertEqual(ask_last(*told, row()), [-6])

    def test_all_is_as_it_was_behind_it(self):
        told = house(3, 3, [(2, 0)]) + [cost(2, 6)]
        asked = ask(*told, row(), weeks(4), row(), eats(2, 0), eats(2, 1), row(), best())
        self.assertEqual(asked[3:], [[-6], [2, 7, 6, 2], [-6], [-4], [2], [1, 2], [6, 1, 4]])


class AgainstTheWords(unittest.TestCase):
    def check(self, kinds, pests, pairs):
        answered = ask_last(*house(kinds, pests, pairs), row())
        self.assertEqual(answered, told_row(kinds, pests, pairs), (kinds, pests, pairs))
        return answered

    def test_every_glasshouse_of_up_to_three_kinds(self):
        for kinds, pests, pairs in small_houses():
            self.check(kinds, pests, pairs)

    def test_many_glasshouses_of_four_to_six_kinds(self):
        for kinds, pests, pairs in itertools.chain(large_houses(), even_houses()):
            answered = self.check(kinds, pests, pairs)
            if answered[0] >= 0:
                led = ask_last(*house(kinds, pests, pairs), goes(*answered[1:]))
                self.assertEqual(led, told_goes(kinds, pests, pairs, answered[1:]))
                self.assertEqual(led[0], 1)

    def first_row(self, kinds, pests, pairs):
        choices = [choice for choice in range(kinds + 1) if pests // 2 ** choice % 2 == 0]
        # A helper eats all that it eats in the week in which it is let loose, so no row need be longer.
        for count in range(4):
            for told in itertools.product(choices, repeat=count):
                if told_goes(kinds, pests, pairs, told)[0] == 1:
                    return [count, *told]
        return [-6]

    def test_every_row_of_up_to_three_weeks_tried_in_order(self):
        for kinds, pests, pairs in list(large_houses())[::9] + list(even_houses())[::9]:
            self.assertEqual(self.check(kinds, pests, pairs), self.first_row(kinds, pests, pairs))


if __name__ == "__main__":
    unittest.main()
