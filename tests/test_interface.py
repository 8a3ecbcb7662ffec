"""The interface: how a line is handed in, and how its answers are given back."""

import contextlib
import inspect
import io
import sys
import unittest

from asking import LARGEST, begins, best, cost, eats, goes, house, line, part, row, weeks
from glasshelpers.house import answers

TALE = line(begins(3, 1), eats(1, 0), cost(1, 7), weeks(2), weeks(1), eats(1, 0), begins(0, 0), weeks(6),
            best(), goes(1, 3), row(), goes(), goes(4), goes(0), begins(2, 1), best(), row())
TOLD = [1, 0, 1, 1, 1, 0, 4, 2, 3, 2, 0, 1, -4, 1, -4, 1, -1, 4, 2, 7, 2, 0,
        3, 7, 2, 2, 4, 1, 1, 2, 0, 2, 1, 1, 2, 0, 1, 1, -1, 1, -4, 1, 0, 1, -6, 1, -6]


def refuse(*told, **more):
    raise AssertionError("what is handed in is not changed")


class Locked(list):
    """A list that can only be read."""

    append = extend = insert = pop = remove = clear = sort = reverse = refuse
    __setitem__ = __delitem__ = __iadd__ = __imul__ = refuse


class Interface(unittest.TestCase):
    def test_the_whole_list_number_by_number(self):
        self.assertEqual(answers(TALE), TOLD)

    def test_one_call(self):
        self.assertEqual(answers([0, 2, 6, 63, 0]), [1, 0])
        self.assertEqual(answers([1, 2, 0, 0, 0]), [1, -4])
        self.assertEqual(answers([2, 2, 0, 1000, 0]), [1, 0])
        self.assertEqual(answers([3, 1, 1, 0]), [3, 1, 1, 0])
        self.assertEqual(answers([3, 1, 0, 0]), [2, 0, 0])
        self.assertEqual(answers([4, 0, 0]), [3, 0, 2, 0])
        self.assertEqual(answers([5, 0, 0]), [2, 1, 0])
        self.assertEqual(answers([5, 2, 0, 1, 0]), [4, 1, 0, 0, 0])
        self.assertEqual(answers([5, 1, 2, 0]), [1, -1])
        self.assertEqual(answers([6, 0, 0]), [1, 0])

    def test_names_and_arguments(self):
        self.assertEqual(list(inspect.signature(answers).parameters), ["calls"])

    def test_kinds_of_what_is_given_back(self):
        given = answers(TALE)
        self.assertIs(type(given), list)
        for number in given:
            self.assertIs(type(number), int)

    def test_the_largest_numbers_everywhere(self):
        calls = line(begins(LARGEST, LARGEST), eats(LARGEST, LARGEST), cost(LARGEST, LARGEST), weeks(LARGEST),
                     goes(LARGEST), goes(*[LARGEST] * 24))
        self.assertEqual(answers(calls), [1, -1, 1, -2, 1, -2, 1, -1, 1, -1, 1, -1])

    def test_sixty_calls(self):
        calls = line(begins(6, 1), *[eats(5, 0), weeks(32)] * 29, cost(5, 1000))
        later = [[-4], [2, 33, 32, 0]] * 28
        self.assertEqual(part(answers(calls)), [[0], [1], [2, 33, 32, 0]] + later + [[0]])

    def test_all_calls_in_one_line(self):
        calls = line(best(), row(), begins(4, 1), eats(1, 0), cost(1, 8), best(), eats(2, 0), goes(2), weeks(6),
                     best(), cost(2, 9), eats(2, 1), row(), begins(3, 6), eats(0, 2), goes(0, 3), eats(0, 1), best())
        self.assertEqual(part(answers(calls)), [
            [0, 2, 0], [0], [0], [1], [0], [8, 4, 2], [2], [1, 1, 4], [2, 7, 6, 0],
            [0, 2, 4], [0], [3], [1, 1], [0], [1], [0, 6, 3, 2], [2], [0, 1, 1]])

    def test_six_calls_of_best_and_row(self):
        told = house(6, 7, [(3, 0), (4, 1), (5, 2)])
        calls = line(*told, best(), row(), cost(4, 3), best(), row(), eats(3, 1), best(), row())
        self.assertEqual(part(answers(calls))[4:], [
            [0, 1, 56], [3, 3, 4, 5], [0], [3, 1, 56], [3, 3, 4, 5], [4], [0, 1, 40], [2, 3, 5]])

    def test_sixty_calls_of_all_kinds(self):
        told = house(6, 7, [(3, 0), (4, 1), (5, 2)])
        calls = line(*told, *[goes(*[6] * 20), weeks(56), goes(*[6] * 24)] * 16, best(), row(), *[cost(5, 1000)] * 2,
                     best(), row(), best(), row())
        waited = [0] + [7] * 21
        self.assertEqual(part(answers(calls)), [
            [0], [1], [2], [3], *[waited, [2, 63, 56, 0], [-1]] * 16, [0, 1, 56], [3, 3, 4, 5], [0], [0],
            [1000, 1, 56], [3, 3, 4, 5], [1000, 1, 56], [3, 3, 4, 5]])

    def test_sixty_calls_are_gone_through_by_loops(self):
        usual = sys.getrecursionlimit()
        calls = line(begins(6, 1), eats(1, 0), *[goes(*[6] * 20)] * 56, best(), row())
        sys.setrecursionlimit(len(inspect.stack(0)) + 25)
        try:
            given = answers(calls)
        finally:
            sys.setrecursionlimit(usual)
        self.assertEqual(part(given)[-2:], [[0, 16, 2], [1, 1]])

    def test_what_is_handed_in_stays_as_it_is(self):
        calls = list(TALE)
        answers(calls)
        self.assertEqual(calls, TALE)

    def test_what_is_handed_in_is_not_changed_for_a_while(self):
        self.assertEqual(answers(Locked(TALE)), TOLD)

    def test_answering_twice_gives_the_same(self):
        self.assertEqual(answers(TALE), answers(TALE))

    def test_nothing_is_kept_from_one_time_to_the_next(self):
        answers(line(begins(6, 1), eats(1, 0), eats(2, 1), cost(3, 9)))
        self.assertEqual(answers(line(weeks(1), weeks(2), eats(0, 1))), [3, 1, 1, 0, 1, -1, 1, -2])
        self.assertEqual(answers(TALE), TOLD)

    def test_changing_what_was_given_back_changes_nothing_later(self):
        given = answers(TALE)
        given.clear()
        self.assertEqual(answers(TALE), TOLD)

    def test_it_prints_nothing(self):
        out = io.StringIO()
        with contextlib.redirect_stdout(out), contextlib.redirect_stderr(out):
            answers(TALE)
        self.assertEqual(out.getvalue(), "")


if __name__ == "__main__":
    unittest.main()
