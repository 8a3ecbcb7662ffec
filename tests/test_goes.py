"""One by one: goes, and where it is refused."""

import unittest

from asking import LARGEST, ask, ask_last, begins, best, cost, eats, goes, house, row, weeks
from words import large_houses, small_houses, told_goes

# Greenfly 0 and ants 1 are pests; ladybirds 2, wasps 3 and hunters 4 are helpers; 5 is none.
TALE = house(5, 3, [(2, 0), (1, 2), (3, 1), (4, 3)])


class Goes(unittest.TestCase):
    def check_tale(self, choices, answered):
        self.assertEqual(ask_last(*TALE, goes(*choices)), answered)

    def test_an_empty_row_without_pests(self):
        self.assertEqual(ask(goes()), [[1, 0]])
        for kinds in range(1, 7):
            self.assertEqual(ask(begins(kinds, 0), goes()), [[0], [1, 0]])

    def test_an_empty_row_with_pests(self):
        for kinds in range(1, 7):
            for pests in range(1, 2 ** kinds):
                self.assertEqual(ask(begins(kinds, pests), goes()), [[0], [0, pests]])

    def test_an_empty_row_with_pests_that_eat_each_other(self):
        self.assertEqual(ask_last(*house(2, 3, [(0, 1), (1, 0)]), goes()), [0, 3])

    def test_rows_in_which_none_is_let_loose(self):
        for kinds in range(1, 7):
            self.assertEqual(ask(begins(kinds, 1), goes(kinds), goes(kinds, kinds)), [[0], [0, 1, 1], [0, 1, 1, 1]])
            self.assertEqual(ask(begins(kinds, 0), goes(kinds), goes(kinds, kinds)), [[0], [1, 0, 0], [1, 0, 0, 0]])
        self.assertEqual(ask_last(*house(2, 3, [(0, 1), (1, 0)]), goes(2)), [1, 3, 0])
        self.assertEqual(ask_last(*house(3, 7, [(0, 1), (1, 2)]), goes(3, 3)), [0, 7, 1, 1])

    def test_one_kind(self):
        self.assertEqual(ask(goes(0), goes(1), goes(0, 1, 0)), [[1, 0, 0], [1, 0, 0], [1, 0, 0, 0, 0]])

    def test_two_kinds(self):
        asked = ask(*house(2, 1, [(1, 0)]), goes(1), goes(2, 1), goes(1, 2))
        self.assertEqual(asked[2:], [[1, 1, 2], [1, 1, 1, 2], [1, 1, 2, 0]])

    def test_three_kinds(self):
        asked = ask(*house(3, 5, [(1, 0), (0, 2)]), goes(3), goes(1), goes(1, 1), goes(3, 1))
        self.assertEqual(asked[3:], [[0, 5, 1], [1, 5, 2], [1, 5, 2, 0], [1, 5, 1, 2]])

    def test_four_kinds(self):
        asked = ask(*house(4, 9, [(1, 0), (2, 3), (1, 2)]), goes(1, 2), goes(2, 1), goes(1, 4, 2))
        self.assertEqual(asked[4:], [[1, 9, 10, 2], [1, 9, 5, 2], [1, 9, 10, 8, 4]])

    def test_five_kinds(self):
        self.check_tale([2], [0, 3, 2])
        self.check_tale([2, 3], [1, 3, 2, 8])
        self.check_tale([2, 3, 5], [1, 3, 2, 8, 0])
        self.check_tale([3, 2], [1, 3, 9, 4])
        self.check_tale([3, 4, 2], [1, 3, 9, 17, 4])
        self.check_tale([4, 5], [0, 3, 3, 3])

    def test_six_kinds(self):
        told = house(6, 7, [(3, 0), (4, 1), (5, 2), (5, 4)])
        asked = ask(*told, goes(3, 4, 5), goes(5, 4, 3), goes(3, 5), goes(6, 5, 4, 6, 3))
        self.assertEqual(asked[5:], [[1, 7, 14, 20, 32], [1, 7, 35, 33, 8], [0, 7, 14, 34],
                                     [1, 7, 7, 35, 33, 1, 8]])

    def test_a_helper_that_is_there_already(self):
        self.check_tale([3, 3], [0, 3, 9, 1])
        self.check_tale([3, 5], [0, 3, 9, 1])
        self.check_tale([3, 3, 2], [1, 3, 9, 1, 4])

    def test_a_helper_let_loose_again_once_it_is_gone(self):
        self.check_tale([2, 2, 3], [1, 3, 2, 2, 8])
        told = house(3, 1, [(2, 0), (1, 2)])
        self.assertEqual(ask_last(*told, goes(2, 1, 3)), [1, 1, 4, 2, 0])
        self.assertEqual(ask_last(*told, goes(2, 1, 2)), [1, 1, 4, 2, 2])
        self.assertEqual(ask_last(*told, goes(2, 1, 2, 3, 2)), [1, 1, 4, 2, 2, 0, 0])

    def test_it_goes_on_once_no_pest_is_there(self):
        self.check_tale([2, 3, 5, 4, 2], [1, 3, 2, 8, 0, 0, 0])

    def test_twenty_weeks(self):
        self.check_tale([5] * 20, [0] + [3] * 21)
        self.check_tale([5] * 18 + [3, 2], [1] + [3] * 19 + [9, 4])
        self.check_tale([3, 2] + [5] * 18, [1, 3, 9, 4] + [0] * 18)
        self.assertEqual(ask(goes(*[0] * 20)), [[1] + [0] * 21])

    def test_all_is_as_it_was(self):
        told = TALE + [cost(2, 5), cost(3, 7)]
        asked = ask(*told, goes(3, 2), goes(3, 2), goes(), weeks(12), eats(4, 3), best(), row(), eats(3, 4), goes(3, 2))
        self.assertEqual(asked[7:10], [[1, 3, 9, 4], [1, 3, 9, 4], [0, 3]])
        self.assertEqual(asked[10:], [[2, 15, 8, 0], [-4], [12, 2, 12], [2, 2, 3], [5], [1, 3, 9, 4]])


class Refused(unittest.TestCase):
    def test_more_than_twenty_weeks(self):
        for count in (21, 22, 23, 24):
            self.assertEqual(ask(goes(*[0] * count), goes(*[1] * count)), [[-1], [-1]])
            self.assertEqual(ask_last(*TALE, goes(*[3, 2] + [5] * (count - 2))), [-1])

    def test_a_number_above_how_many_kinds_there_are(self):
        for kinds in range(1, 7):
            for number in (kinds + 1, kinds + 2, 31, 32, 64, 2 ** 31, LARGEST):
                rows = [goes(number), goes(0, number), goes(number, 0), goes(kinds, number, kinds)]
                asked = ask(begins(kinds, 0), *rows)
                self.assertEqual(asked, [[0], [-1], [-1], [-1], [-1]])

    def test_a_pest(self):
        for kinds in range(2, 7):
            for pest in range(kinds):
                other = 0 if pest > 0 else 1
                rows = [goes(pest), goes(other, pest), goes(pest, other), goes(kinds, pest)]
                asked = ask(begins(kinds, 2 ** pest), *rows)
                self.assertEqual(asked, [[0], [-4], [-4], [-4], [-4]])

    def test_a_pest_that_is_gone_already(self):
        self.assertEqual(ask_last(*house(2, 1, [(1, 0)]), goes(1, 0)), [-4])

    def test_a_pest_in_the_last_of_twenty_weeks(self):
        self.assertEqual(ask_last(*TALE, goes(*[5] * 19, 0)), [-4])

    def test_of_several_refusals_the_one_told_first(self):
        for choices in ([0, 6], [6, 0], [0, 0, LARGEST], [LARGEST, 1, 1], [0] * 21, [1] * 24, [5] * 23 + [0]):
            self.assertEqual(ask_last(*TALE, goes(*choices)), [-1])
        self.assertEqual(ask_last(*TALE, goes(*[LARGEST] * 24)), [-1])

    def test_all_is_as_it_was_behind_it(self):
        told = TALE + [cost(2, 5), cost(3, 7)]
        for refused, number in ((goes(3, 6), -1), (goes(*[2] * 21), -1), (goes(2, 3, 0), -4)):
            asked = ask(*told, refused, goes(3, 2), weeks(12), eats(4, 3), best(), row(), eats(3, 4), refused)
            self.assertEqual(asked[7:10], [[number], [1, 3, 9, 4], [2, 15, 8, 0]])
            self.assertEqual(asked[10:], [[-4], [12, 2, 12], [2, 2, 3], [5], [number]])


class AgainstTheWords(unittest.TestCase):
    def check(self, kinds, pests, pairs, rows):
        told = house(kinds, pests, pairs)
        answered = ask(*told, *[goes(*choices) for choices in rows])[len(told):]
        self.assertEqual(answered, [told_goes(kinds, pests, pairs, choices) for choices in rows])

    def test_every_row_of_up_to_two_weeks_in_every_glasshouse_of_up_to_three_kinds(self):
        for kinds, pests, pairs in small_houses():
            numbers = range(kinds + 2)
            self.check(kinds, pests, pairs, [[]] + [[number] for number in numbers])
            self.check(kinds, pests, pairs, [[first, second] for first in numbers for second in numbers])

    def test_many_rows_in_glasshouses_of_four_to_six_kinds(self):
        for count, (kinds, pests, pairs) in enumerate(large_houses()):
            allowed = [choice for choice in range(kinds + 1) if pests // 2 ** choice % 2 == 0]
            rows = [[allowed[(count + place) * (place + weeks_told) // 3 % len(allowed)] for place in range(weeks_told)]
                    for weeks_told in range(25)]
            self.check(kinds, pests, pairs, rows)


if __name__ == "__main__":
    unittest.main()
