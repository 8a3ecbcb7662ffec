"""At once: best, and where it is refused."""

import itertools
import unittest

from asking import ask, ask_last, begins, best, cost, eats, house, row, weeks
from words import even_houses, large_houses, small_houses, told_best

# Greenfly 0 and ants 1 are pests; ladybirds 2, wasps 3 and hunters 4 are helpers.
TALE = house(5, 3, [(2, 0), (1, 2), (3, 1), (4, 3)])


class NoPests(unittest.TestCase):
    def test_at_the_beginning_of_a_line(self):
        self.assertEqual(ask(best()), [[0, 2, 0]])

    def test_the_empty_set_rids_one_of_all_and_so_does_every_other(self):
        for kinds in range(1, 7):
            self.assertEqual(ask(begins(kinds, 0), best()), [[0], [0, 2 ** kinds, 0]])

    def test_only_sets_that_cost_nothing_are_counted(self):
        self.assertEqual(ask(cost(0, 1), best()), [[0], [0, 1, 0]])
        for kinds in range(1, 7):
            dear = [cost(helper, 1000) for helper in range(kinds)]
            self.assertEqual(ask_last(begins(kinds, 0), *dear, best()), [0, 1, 0])
            self.assertEqual(ask_last(begins(kinds, 0), *dear[1:], best()), [0, 2, 0])


class Best(unittest.TestCase):
    def test_one_kind(self):
        self.assertEqual(ask(begins(1, 0), best(), begins(1, 1), best()), [[0], [0, 2, 0], [0], [-6]])

    def test_two_kinds(self):
        told = house(2, 1, [(1, 0)])
        self.assertEqual(ask(*told, best(), cost(1, 7), best())[2:], [[0, 1, 2], [0], [7, 1, 2]])
        self.assertEqual(ask_last(*house(2, 2, [(0, 1)]), cost(0, 1000), best()), [1000, 1, 1])

    def test_three_kinds(self):
        told = house(3, 1, [(1, 0), (2, 0)])
        self.assertEqual(ask_last(*told, best()), [0, 3, 2])
        self.assertEqual(ask_last(*told, cost(1, 4), cost(2, 3), best()), [3, 1, 4])
        self.assertEqual(ask_last(*told, cost(1, 3), cost(2, 4), best()), [3, 1, 2])
        self.assertEqual(ask_last(*told, cost(1, 3), cost(2, 3), best()), [3, 2, 2])

    def test_four_kinds(self):
        told = house(4, 9, [(1, 0), (2, 3), (1, 2)])
        self.assertEqual(ask_last(*told, cost(1, 20), cost(2, 22), best()), [42, 1, 6])

    def test_five_kinds(self):
        self.assertEqual(ask_last(*TALE, best()), [0, 2, 12])
        self.assertEqual(ask_last(*TALE, cost(2, 5), cost(3, 7), best()), [12, 2, 12])
        self.assertEqual(ask_last(*TALE, cost(2, 5), cost(3, 7), cost(4, 1), best()), [12, 1, 12])

    def test_six_kinds(self):
        told = house(6, 7, [(3, 0), (4, 1), (5, 2)]) + [cost(helper, 1000) for helper in (3, 4, 5)]
        self.assertEqual(ask_last(*told, best()), [3000, 1, 56])
        self.assertEqual(ask_last(*told, eats(3, 1), best()), [2000, 1, 40])
        self.assertEqual(ask_last(*told, eats(4, 0), eats(5, 1), eats(5, 0), best()), [1000, 1, 32])

    def test_helpers_that_cost_nothing_beside_one_that_does(self):
        told = house(4, 1, [(1, 0), (2, 0)]) + [cost(1, 5)]
        self.assertEqual(ask_last(*told, best()), [0, 2, 4])
        self.assertEqual(ask_last(*told, cost(2, 6), best()), [5, 2, 2])

    def test_the_least_number_and_not_the_fewest_helpers(self):
        told = house(5, 3, [(2, 0), (3, 1), (4, 0), (4, 1)]) + [cost(2, 2), cost(3, 3)]
        self.assertEqual(ask_last(*told, cost(4, 5), best()), [5, 2, 12])
        self.assertEqual(ask_last(*told, cost(4, 4), best()), [4, 1, 16])
        self.assertEqual(ask_last(*told, cost(4, 6), best()), [5, 1, 12])

    def test_more_helpers_are_dearer_and_not_better(self):
        told = house(6, 1, [(kind, 0) for kind in range(1, 6)]) + [cost(kind, 9 - kind) for kind in range(1, 6)]
        self.assertEqual(ask_last(*told, best()), [4, 1, 32])
        self.assertEqual(ask_last(*TALE, cost(4, 1), best()), [0, 1, 12])

    def test_many_are_cheaper_than_one(self):
        told = house(5, 6, [(0, 1), (3, 2), (4, 1), (4, 2)])
        self.assertEqual(ask_last(*told, cost(0, 3), cost(3, 3), cost(4, 7), best()), [6, 1, 9])

    def test_pests_that_eat_pests(self):
        self.assertEqual(ask_last(*house(3, 3, [(0, 1), (2, 0)]), cost(2, 8), best()), [8, 1, 4])
        self.assertEqual(ask_last(*house(3, 3, [(0, 1), (1, 0)]), cost(2, 8), best()), [0, 1, 0])
        self.assertEqual(ask_last(*house(6, 63, [(kind, (kind + 1) % 6) for kind in range(6)]), best()), [0, 1, 0])

    def test_a_helper_that_is_eaten_in_that_week_has_eaten(self):
        self.assertEqual(ask_last(*house(2, 1, [(0, 1), (1, 0)]), cost(1, 3), best()), [3, 1, 2])

    def test_what_costs_changed_to_counts(self):
        told = house(3, 1, [(1, 0), (2, 0)]) + [cost(1, 4), cost(2, 3)]
        asked = ask(*told, best(), cost(2, 9), best(), cost(1, 1001), cost(0, 1), best())
        self.assertEqual(asked[5:], [[3, 1, 4], [0], [4, 1, 2], [-1], [-4], [4, 1, 2]])

    def test_all_is_as_it_was(self):
        told = TALE + [cost(2, 5), cost(3, 7)]
        asked = ask(*told, best(), best(), weeks(12), row(), eats(4, 3), eats(3, 4), best())
        self.assertEqual(asked[7:9], [[12, 2, 12], [12, 2, 12]])
        self.assertEqual(asked[9:], [[2, 15, 8, 0], [2, 2, 3], [-4], [5], [12, 2, 12]])


class Refused(unittest.TestCase):
    def test_no_helper_eats_the_pest(self):
        for kinds in range(1, 7):
            for pest in range(kinds):
                self.assertEqual(ask(begins(kinds, 2 ** pest), best()), [[0], [-6]])

    def test_all_kinds_are_pests_and_one_stays(self):
        self.assertEqual(ask_last(*house(3, 7, [(0, 1), (1, 2)]), best()), [-6])

    def test_of_two_pests_one_stays(self):
        self.assertEqual(ask_last(*house(4, 3, [(2, 0), (3, 0), (0, 3)]), best()), [-6])

    def test_all_is_as_it_was_behind_it(self):
        told = house(3, 3, [(2, 0)]) + [cost(2, 6)]
        asked = ask(*told, best(), weeks(4), best(), eats(2, 0), eats(2, 1), best())
        self.assertEqual(asked[3:], [[-6], [2, 7, 6, 2], [-6], [-4], [2], [6, 1, 4]])


class AgainstTheWords(unittest.TestCase):
    def check(self, kinds, pests, pairs, costs):
        prices = [cost(kind, costs[kind]) for kind in range(kinds) if pests // 2 ** kind % 2 == 0]
        answered = ask_last(*house(kinds, pests, pairs), *prices, best())
        self.assertEqual(answered, told_best(kinds, pests, pairs, costs), (kinds, pests, pairs, costs))

    def test_every_glasshouse_of_up_to_three_kinds(self):
        for kinds, pests, pairs in small_houses():
            for costs in ([0, 0, 0], [1, 1, 1], [1, 2, 3], [3, 1, 2], [1000, 0, 1000], [2, 1, 1]):
                self.check(kinds, pests, pairs, costs)

    def test_many_glasshouses_of_four_to_six_kinds(self):
        for count, (kinds, pests, pairs) in enumerate(itertools.chain(large_houses(), even_houses())):
            self.check(kinds, pests, pairs, [(count + 3) * (kind + 2) * 7 % 5 for kind in range(6)])
            self.check(kinds, pests, pairs, [count * (kind + 1) * 331 % 1001 for kind in range(6)])


if __name__ == "__main__":
    unittest.main()
