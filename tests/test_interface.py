"""The interface: how a line is handed in, and how its answers are given back."""

import contextlib
import inspect
import io
import unittest

from asking import LARGEST, begins, cost, eats, line, part, weeks
from glasshelpers.house import answers

TALE = line(begins(3, 1), eats(1, 0), cost(1, 7), weeks(2), weeks(1), eats(1, 0), begins(0, 0), weeks(6))
TOLD = [1, 0, 1, 1, 1, 0, 4, 2, 3, 2, 0, 1, -4, 1, -4, 1, -1, 4, 2, 7, 2, 0]


def refuse(*told, **more):
    raise AssertionError("what is handed in is not changed")


class Locked(list):
    """A list that can only be read."""

    append = extend = insert = pop = remove = clear = sort = reverse = refuse
    __setitem__ = __delitem__ = __iadd__ = __imul__ = refuse


class Interface(unittest.TestCase):
    def test_the_whole_list_number_by_number(self):
        self.assertEqual(answers(TALE), TOLD)

    def test_one_call(self):
        self.assertEqual(answers([0, 2, 6, 63, 0]), [1, 0])
        self.assertEqual(answers([1, 2, 0, 0, 0]), [1, -4])
        self.assertEqual(answers([2, 2, 0, 1000, 0]), [1, 0])
        self.assertEqual(answers([3, 1, 1, 0]), [3, 1, 1, 0])
        self.assertEqual(answers([3, 1, 0, 0]), [2, 0, 0])

    def test_names_and_arguments(self):
        self.assertEqual(list(inspect.signature(answers).parameters), ["calls"])

    def test_kinds_of_what_is_given_back(self):
        given = answers(TALE)
        self.assertIs(type(given), list)
        for number in given:
            self.assertIs(type(number), int)

    def test_the_largest_numbers_everywhere(self):
        calls = line(begins(LARGEST, LARGEST), eats(LARGEST, LARGEST), cost(LARGEST, LARGEST), weeks(LARGEST))
        self.assertEqual(answers(calls), [1, -1, 1, -2, 1, -2, 1, -1])

    def test_sixty_calls(self):
        calls = line(begins(6, 1), *[eats(5, 0), weeks(32)] * 29, cost(5, 1000))
        later = [[-4], [2, 33, 32, 0]] * 28
        self.assertEqual(part(answers(calls)), [[0], [1], [2, 33, 32, 0]] + later + [[0]])

    def test_what_is_handed_in_stays_as_it_is(self):
        calls = list(TALE)
        answers(calls)
        self.assertEqual(calls, TALE)

    def test_what_is_handed_in_is_not_changed_for_a_while(self):
        self.assertEqual(answers(Locked(TALE)), TOLD)

    def test_answering_twice_gives_the_same(self):
        self.assertEqual(answers(TALE), answers(TALE))

    def test_nothing_is_kept_from_one_time_to_the_next(self):
        answers(line(begins(6, 1), eats(1, 0), eats(2, 1), cost(3, 9)))
        self.assertEqual(answers(line(weeks(1), weeks(2), eats(0, 1))), [3, 1, 1, 0, 1, -1, 1, -2])
        self.assertEqual(answers(TALE), TOLD)

    def test_changing_what_was_given_back_changes_nothing_later(self):
        given = answers(TALE)
        given.clear()
        self.assertEqual(answers(TALE), TOLD)

    def test_it_prints_nothing(self):
        out = io.StringIO()
        with contextlib.redirect_stdout(out), contextlib.redirect_stderr(out):
            answers(TALE)
        self.assertEqual(out.getvalue(), "")


if __name__ == "__main__":
    unittest.main()
