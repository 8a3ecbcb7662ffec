"""Point 1: begins, eats and cost, and what they refuse."""

import unittest

from asking import LARGEST, ask, begins, best, cost, eats, weeks


class AtTheBeginningOfALine(unittest.TestCase):
    def test_one_helper_is_known_and_no_pest(self):
        self.assertEqual(ask(weeks(0), weeks(1), weeks(2)), [[0, 0], [1, 1, 0], [-1]])

    def test_only_kind_0_is_known(self):
        self.assertEqual(ask(eats(0, 1), eats(1, 0), eats(0, 0)), [[-2], [-2], [-4]])
        self.assertEqual(ask(cost(0, 7), cost(1, 7)), [[0], [-2]])

    def test_the_helper_costs_nothing(self):
        self.assertEqual(ask(best(), cost(0, 1), best()), [[0, 2, 0], [0], [0, 1, 0]])


class Begins(unittest.TestCase):
    def test_each_number_of_kinds_from_one_to_the_most(self):
        for kinds in range(1, 7):
            every = 2 ** kinds - 1
            asked = ask(begins(kinds, 0), weeks(every), weeks(every + 1), eats(0, kinds), cost(kinds - 1, 1))
            self.assertEqual(asked, [[0], [1, every, 0], [-1], [-2], [0]])

    def test_each_set_of_pests(self):
        for kinds in range(1, 7):
            for pests in range(2 ** kinds):
                self.assertEqual(ask(begins(kinds, pests), weeks(0)), [[0], [0, pests]])

    def test_no_kinds_or_too_many(self):
        for kinds in (0, 7, 8, 64, LARGEST):
            for pests in (0, 1, 64, LARGEST):
                self.assertEqual(ask(begins(kinds, pests)), [[-1]])

    def test_pests_that_are_no_set_of_these_kinds(self):
        for kinds in range(1, 7):
            for pests in (2 ** kinds, 2 ** kinds + 1, 2 ** 31, LARGEST):
                self.assertEqual(ask(begins(kinds, pests)), [[-1]])

    def test_all_is_as_it_was_behind_a_refusal(self):
        for refused in (begins(0, 0), begins(7, 0), begins(2, 4), begins(LARGEST, LARGEST)):
            asked = ask(begins(3, 1), eats(1, 0), refused, eats(1, 0), weeks(2), weeks(8), eats(2, 0), cost(0, 1))
            self.assertEqual(asked, [[0], [1], [-1], [-4], [2, 3, 2, 0], [-1], [2], [-4]])

    def test_costs_are_as_they_were_behind_a_refusal(self):
        asked = ask(begins(2, 1), eats(1, 0), cost(1, 9), begins(2, 4), best(), begins(7, 1), best())
        self.assertEqual(asked[3:], [[-1], [9, 1, 2], [-1], [9, 1, 2]])

    def test_in_the_midst_nobody_eats_another_and_it_is_counted_anew(self):
        told = [begins(3, 1), eats(1, 0), eats(2, 1), weeks(2)]
        asked = ask(*told, begins(3, 1), weeks(2), eats(2, 1), eats(1, 0), weeks(2))
        self.assertEqual(asked[:4], [[0], [1], [2], [2, 3, 2, 0]])
        self.assertEqual(asked[4:], [[0], [1, 3, 1], [1], [2], [2, 3, 2, 0]])

    def test_in_the_midst_kinds_and_pests_are_the_new_ones(self):
        asked = ask(begins(6, 32), begins(2, 2), weeks(1), weeks(2), weeks(4), eats(2, 0), cost(1, 1), cost(0, 1))
        self.assertEqual(asked, [[0], [0], [1, 3, 2], [-4], [-1], [-2], [-4], [0]])

    def test_in_the_midst_helpers_cost_nothing(self):
        told = [begins(3, 1), eats(1, 0), eats(2, 0)]
        asked = ask(*told, cost(1, 5), cost(2, 1000), best(), *told, best())
        self.assertEqual(asked[5:], [[5, 1, 2], [0], [1], [2], [0, 3, 2]])


class Eats(unittest.TestCase):
    def test_counts_what_is_told(self):
        pairs = [(kind, other) for kind in range(6) for other in range(6) if kind != other]
        told = ask(begins(6, 21), *[eats(kind, other) for kind, other in pairs])
        self.assertEqual(told, [[0]] + [[count] for count in range(1, 31)])

    def test_the_other_way_round_is_another_two(self):
        self.assertEqual(ask(begins(2, 0), eats(0, 1), eats(1, 0)), [[0], [1], [2]])

    def test_it_is_the_first_that_eats_the_second(self):
        self.assertEqual(ask(begins(2, 3), eats(0, 1), weeks(0)), [[0], [1], [1, 3, 1]])
        self.assertEqual(ask(begins(2, 3), eats(1, 0), weeks(0)), [[0], [1], [1, 3, 2]])

    def test_a_kind_that_is_not_there(self):
        for kinds in range(1, 7):
            for number in (kinds, kinds + 1, LARGEST):
                asked = ask(begins(kinds, 0), eats(0, number), eats(number, 0), eats(number, number))
                self.assertEqual(asked, [[0], [-2], [-2], [-2]])

    def test_the_same_kind_twice(self):
        self.assertEqual(ask(begins(3, 1), eats(0, 0), eats(1, 1), eats(2, 2)), [[0], [-4], [-4], [-4]])

    def test_told_a_second_time(self):
        asked = ask(begins(3, 0), eats(0, 1), eats(0, 1), eats(1, 0), eats(1, 0), eats(0, 1))
        self.assertEqual(asked, [[0], [1], [-4], [2], [-4], [-4]])

    def test_all_is_as_it_was_behind_a_refusal(self):
        for refused, number in ((eats(3, 0), -2), (eats(0, 3), -2), (eats(0, 0), -4), (eats(1, 0), -4)):
            asked = ask(begins(3, 1), eats(1, 0), refused, weeks(6), eats(2, 1), weeks(6))
            self.assertEqual(asked, [[0], [1], [number], [2, 7, 2, 0], [2], [2, 7, 4, 0]])


class Cost(unittest.TestCase):
    def test_what_a_helper_may_cost(self):
        for price in (0, 1, 999, 1000):
            asked = ask(begins(2, 1), eats(1, 0), cost(1, price), cost(1, price), best())
            self.assertEqual(asked, [[0], [1], [0], [0], [price, 1, 2]])

    def test_it_is_kept_for_that_helper_and_the_last_told_holds(self):
        # Each of the three is needed, for a pest of its own.
        told = [begins(6, 42), eats(0, 1), eats(2, 3), eats(4, 5)]
        asked = ask(*told, cost(0, 1000), cost(4, 4), best(), cost(2, 80), cost(4, 5), best(), cost(0, 0), best())
        self.assertEqual(asked[4:], [[0], [0], [1004, 1, 21], [0], [0], [1085, 1, 21], [0], [85, 1, 21]])

    def test_no_such_kind(self):
        for kinds in range(1, 7):
            for number in (kinds, kinds + 1, LARGEST):
                self.assertEqual(ask(begins(kinds, 0), cost(number, 0)), [[0], [-2]])

    def test_too_dear(self):
        for price in (1001, 1002, LARGEST):
            self.assertEqual(ask(begins(2, 1), cost(1, price)), [[0], [-1]])

    def test_a_pest(self):
        self.assertEqual(ask(begins(2, 1), cost(0, 0), cost(0, 1000)), [[0], [-4], [-4]])

    def test_of_several_refusals_the_one_told_first(self):
        asked = ask(begins(2, 3), cost(2, 1001), cost(LARGEST, LARGEST), cost(0, 1001), cost(1, LARGEST))
        self.assertEqual(asked, [[0], [-2], [-2], [-1], [-1]])

    def test_all_is_as_it_was_behind_a_refusal(self):
        for helper, price, number in ((3, 1, -2), (1, 1001, -1), (0, 1, -4)):
            asked = ask(begins(3, 1), eats(1, 0), cost(1, 6), cost(helper, price), best(), weeks(2))
            self.assertEqual(asked[3:], [[number], [6, 2, 2], [2, 3, 2, 0]])

    def test_it_changes_nothing_of_who_eats_whom(self):
        asked = ask(begins(2, 1), eats(1, 0), cost(1, 3), weeks(2), eats(0, 1))
        self.assertEqual(asked, [[0], [1], [0], [2, 3, 2, 0], [2]])


if __name__ == "__main__":
    unittest.main()
