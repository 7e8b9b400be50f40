"""How a list of calls is written, how what is answered is written, and what is left alone."""

import contextlib
import io
import unittest

from goneoak.pegs import UnknownCall, answers
from tests.helper import (
    GALLOWS, apart, begin, gone, line, look, lost, move, needs, same, tells, text, treasure,
)

WRITTEN = [
    2, 1, 0, 0,
    0, 0, 3, 0, 2, 0, 0, 2, 11, 0,
    1, 0, 11, 2, 0, 0, 2, 1, 1, 2, 3, 3, 2, 4, 1, 1, 6, 2, 1, 0, 2, 1, 2, 2, 3, 1, 2, 4, 1, 1, 6, 3, 7, 0, 1,
    2, 1, 0, 0,
    3, 1, 0, 0,
    4, 2, 0, 1, 0,
    5, 2, 0, 0, 0,
    1, 0, 1, 2, 0, 3,
    1, 0, 0,
    0, 0, 0,
    2, 1, 9, 0,
    6, 4, 0, 1, 5, 5, 0,
    7, 6, 0, 2, 10, 0, -1, 0, 0,
    1, 0, 1, 2, 0, 1,
    8, 2, 0, 1, 0,
    9, 3, 0, -7, 8, 0,
    10, 1, 1, 0,
    11, 0, 0,
    6, 4, 0, 0, 5, 5, 0,
    6, 4, 0, 2, 5, 5, 0,
    7, 6, 0, 3, 0, 0, 0, 0, 0,
    8, 2, 0, 1, 0,
    9, 3, 0, 1001, 0, 0,
    10, 1, 9, 0,
]
ANSWERED = [
    1, -9,
    1, 0,
    1, 0,
    4, 0, 11, 11, 2,
    3, 2, 1, 2,
    4, 0, 1, -1, 2,
    1, 1,
    2, -3, 0,
    1, -1,
    1, -1,
    1, -2,
    4, 0, 0, -1, 1,
    7, 0, 5, 5, 1, -1, -1, 2,
    1, 1,
    2, 121, 2,
    1, 0,
    1, 0,
    11, 3, 1, -7, 8, 0, 1, 11, 0, 2, 11, 1,
    1, -7,
    2, -6, 1,
    1, -1,
    2, -6, 1,
    1, -1,
    1, -1,
]


def joined(*calls):
    return [number for one in calls for number in one]


def calls_of(written):
    """The calls of a list of calls, cut apart."""
    cut = []
    while written:
        end = 2 + written[1]
        lists = written[end]
        end += 1
        for one in range(lists):
            end += 1 + written[end]
        cut.append(written[:end])
        written = written[end:]
    return cut


class Interface(unittest.TestCase):
    def test_several_calls_in_one_list(self):
        self.assertEqual(answers(WRITTEN), ANSWERED)

    def test_all_twelve_sorts_are_among_them(self):
        self.assertEqual(sorted({one[0] for one in calls_of(WRITTEN)}), list(range(12)))

    def test_an_empty_landmark_and_an_empty_saying_are_lists_without_numbers(self):
        self.assertEqual(answers([0, 0, 2, 0, 2, 1, 1, 1, 0, 2, 2, 0, 0, 0, 2, 1, 0, 0]), [1, 0, 1, -1, 1, -2])

    def test_what_is_handed_in_is_not_changed(self):
        handed = list(WRITTEN)
        answers(handed)
        self.assertEqual(handed, WRITTEN)

    def test_nothing_is_kept_from_one_time_to_the_next(self):
        other = joined(begin([5, 5]), text([0, 0]), move(0, [6, 6]), treasure(0), gone(0), text([0, 0]), look())
        first = answers(WRITTEN)
        between = answers(other)
        self.assertEqual(answers(WRITTEN), first)
        self.assertEqual(answers(other), between)
        self.assertEqual(answers(treasure(0)), [1, -9])
        self.assertEqual(answers(look()), [1, -9])

    def test_what_is_given_back_is_the_callers_own(self):
        first = answers(WRITTEN)
        first.clear()
        self.assertEqual(answers(WRITTEN), ANSWERED)

    def test_it_gives_a_list_of_whole_numbers(self):
        told = answers(WRITTEN + same(0, 1) + same(0, 0))
        self.assertIs(type(told), list)
        self.assertEqual({type(number) for number in told}, {int})

    def test_sixty_calls(self):
        calls = joined(begin([], [0, 0], [11, 0]), text(*GALLOWS), *[treasure(0), tells(0, 2)] * 29)
        self.assertEqual(answers(calls), [1, 0, 1, 0] + [4, 0, 11, 11, 2, 4, 0, 1, 1, 2] * 29)

    def test_sixty_calls_of_all_sorts(self):
        landmarks = [[], [0, 0], [10, 0]]
        calls = [begin(*landmarks), text(*GALLOWS), text([0, 1])]
        calls += [treasure(0), needs(0), tells(0, 1), same(0, 1), lost(0, 2, [5, 5]), line(0, 1, [0, 0], [4, 2])] * 5
        calls += [apart(0, 1), move(0, [1, 1]), gone(0), look(), move(1, [0, 0]), begin([1001, 0])] * 4
        calls += [look(), begin([2, 3]), look()]
        self.assertEqual(len(calls), 60)
        told = [1, 0, 1, 0, 1, 1]
        told += [4, 0, 5, 5, 1, 3, 2, 1, 2, 4, 0, 1, -1, 2, 1, 0, 4, 0, 10, 0, 1, 7, 0, 5, 5, 1, 8, 4, 1] * 5
        there = [11, 3, 0, 1, 0, 0, 1, 10, 0, 2, 11, 1]
        told += [2, 50, 1, 1, 0, 1, 0, *there, 1, 0, 1, -1] * 4
        told += [*there, 1, 0, 5, 1, 1, 2, 3, 0]
        self.assertEqual(answers(joined(*calls)), told)

    def test_the_longest_list_of_calls(self):
        # No call has more numbers than a text of 20 sayings of 4 numbers.
        longest = text(*[[9, 9, 9, 9]] * 20)
        self.assertEqual(answers(joined(*[longest] * 60)), [1, -9] * 60)
        self.assertEqual(answers(joined(begin([1, 1]), *[longest] * 59)), [1, 0] + [1, -1] * 59)

    def test_another_number_is_no_call(self):
        with self.assertRaises(UnknownCall):
            answers(begin([1, 1]) + [12, 0, 0])

    def test_nothing_is_printed(self):
        shown = io.StringIO()
        with contextlib.redirect_stdout(shown), contextlib.redirect_stderr(shown):
            answers(WRITTEN)
        self.assertEqual(shown.getvalue(), "")


if __name__ == "__main__":
    unittest.main()
