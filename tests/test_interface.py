"""How a list of calls is written, how what is answered is written, and what is left alone."""

import contextlib
import io
import unittest

from goneoak.pegs import answers
from tests.helper import GALLOWS, begin, needs, same, tells, text, treasure

WRITTEN = [
    2, 1, 0, 0,
    0, 0, 3, 0, 2, 0, 0, 2, 11, 0,
    1, 0, 11, 2, 0, 0, 2, 1, 1, 2, 3, 3, 2, 4, 1, 1, 6, 2, 1, 0, 2, 1, 2, 2, 3, 1, 2, 4, 1, 1, 6, 3, 7, 0, 1,
    2, 1, 0, 0,
    3, 1, 0, 0,
    4, 2, 0, 1, 0,
    5, 2, 0, 0, 0,
    1, 0, 1, 2, 0, 3,
    1, 0, 0,
    0, 0, 0,
    2, 1, 9, 0,
]
ANSWERED = [
    1, -9,
    1, 0,
    1, 0,
    4, 0, 11, 11, 2,
    3, 2, 1, 2,
    4, 0, 1, -1, 2,
    1, 1,
    2, -3, 0,
    1, -1,
    1, -1,
    1, -2,
]


def joined(*calls):
    return [number for one in calls for number in one]


class Interface(unittest.TestCase):
    def test_several_calls_in_one_list(self):
        self.assertEqual(answers(WRITTEN), ANSWERED)

    def test_an_empty_landmark_and_an_empty_saying_are_lists_without_numbers(self):
        self.assertEqual(answers([0, 0, 2, 0, 2, 1, 1, 1, 0, 2, 2, 0, 0, 0, 2, 1, 0, 0]), [1, 0, 1, -1, 1, -2])

    def test_what_is_handed_in_is_not_changed(self):
        handed = list(WRITTEN)
        answers(handed)
        self.assertEqual(handed, WRITTEN)

    def test_nothing_is_kept_from_one_time_to_the_next(self):
        other = joined(begin([5, 5]), text([0, 0]), treasure(0), text([0, 0]), needs(1))
        first = answers(WRITTEN)
        between = answers(other)
        self.assertEqual(answers(WRITTEN), first)
        self.assertEqual(answers(other), between)
        self.assertEqual(answers(treasure(0)), [1, -9])

    def test_what_is_given_back_is_the_callers_own(self):
        first = answers(WRITTEN)
        first.clear()
        self.assertEqual(answers(WRITTEN), ANSWERED)

    def test_it_gives_a_list_of_whole_numbers(self):
        told = answers(WRITTEN + same(0, 1) + same(0, 0))
        self.assertIs(type(told), list)
        self.assertEqual({type(number) for number in told}, {int})

    def test_sixty_calls(self):
        calls = joined(begin([], [0, 0], [11, 0]), text(*GALLOWS), *[treasure(0), tells(0, 2)] * 29)
        self.assertEqual(answers(calls), [1, 0, 1, 0] + [4, 0, 11, 11, 2, 4, 0, 1, 1, 2] * 29)

    def test_nothing_is_printed(self):
        shown = io.StringIO()
        with contextlib.redirect_stdout(shown), contextlib.redirect_stderr(shown):
            answers(WRITTEN)
        self.assertEqual(shown.getvalue(), "")


if __name__ == "__main__":
    unittest.main()
