"""Point 1, and what holds ahead of any map."""

import unittest

from tests.helper import (
    ALL_BUT_BEGIN, apart, ask, begin, gone, last, line, look, lost, move, needs, same, tells, text, treasure,
)

STANDING = begin([3, 4], [7, 9])
TO_OTHER = text([0, 0], [1, 1])


class WithoutMap(unittest.TestCase):
    def test_all_but_begin_answer_minus_9(self):
        for one in ALL_BUT_BEGIN:
            with self.subTest(call=one):
                self.assertEqual(ask(one), [[-9]])

    def test_all_of_them_in_one_list(self):
        self.assertEqual(ask(*ALL_BUT_BEGIN), [[-9]] * len(ALL_BUT_BEGIN))

    def test_minus_9_comes_ahead_of_other_refusals(self):
        for one in (
            text(), text([9, 9, 9, 9]), treasure(9), needs(9), tells(9, 9), same(9, 9), lost(9, 9, [2000, 2000]),
            line(9, 9, [2000, 0], [0, 2000]), apart(9, 9), move(9, [-2000, 0]), gone(9),
        ):
            with self.subTest(call=one):
                self.assertEqual(ask(one), [[-9]])

    def test_a_refused_begin_makes_no_map(self):
        for one in ALL_BUT_BEGIN:
            with self.subTest(call=one):
                self.assertEqual(ask(begin(), one, begin([1]), one), [[-1], [-9], [-1], [-9]])

    def test_move_and_gone_ahead_of_the_map_are_not_kept(self):
        self.assertEqual(ask(move(0, [5, 6]), begin([1, 2]), look()), [[-9], [0], [1, 1, 1, 2, 0]])
        self.assertEqual(ask(gone(0), begin([1, 2]), look()), [[-9], [0], [1, 1, 1, 2, 0]])

    def test_a_text_ahead_of_the_map_is_not_kept(self):
        self.assertEqual(ask(text([0, 0]), begin([1, 2]), treasure(0), text([0, 0])), [[-9], [0], [-2], [0]])


class Begin(unittest.TestCase):
    def test_one_to_four_landmarks(self):
        for count in range(1, 5):
            with self.subTest(count=count):
                landmarks = [[count, -count]] * count
                self.assertEqual(
                    ask(begin(*landmarks), text([0, count - 1]), treasure(0), text([0, count])),
                    [[0], [0], [0, count, -count, 1], [-3, 0]],
                )

    def test_gone_ones_among_them(self):
        self.assertEqual(ask(begin([])), [[0]])
        self.assertEqual(ask(begin([], [], [], [])), [[0]])
        told = ask(
            begin([1, 2], [], [5, 6], []),
            text([0, 0]), text([0, 1]), text([0, 2]), text([0, 3]),
            treasure(0), treasure(1), treasure(2), treasure(3),
        )
        self.assertEqual(told[5:], [[0, 1, 2, 1], [-6, 1], [0, 5, 6, 1], [-6, 3]])

    def test_no_landmarks_or_too_many(self):
        for count in (0, 5, 6):
            with self.subTest(count=count):
                self.assertEqual(ask(begin(*[[1, 1]] * count)), [[-1]])
                self.assertEqual(ask(begin(*[[]] * count)), [[-1]])

    def test_a_landmark_of_one_number_or_three(self):
        for wrong in ([0], [5], [0, 0, 0], [1, 2, 3]):
            for landmarks in ([wrong], [wrong, [1, 1]], [[1, 1], wrong], [[], [1, 1], [2, 2], wrong]):
                with self.subTest(landmarks=landmarks):
                    self.assertEqual(ask(begin(*landmarks)), [[-1]])

    def test_bounds_of_each_number(self):
        for number, answer in ((-2000, -1), (-1001, -1), (-1000, 0), (1000, 0), (1001, -1), (2000, -1)):
            for place in ([number, 0], [0, number], [number, number]):
                with self.subTest(place=place):
                    self.assertEqual(ask(begin(place)), [[answer]])
                    self.assertEqual(ask(begin([1, 1], [], place)), [[answer]])

    def test_places_at_the_bounds_are_kept(self):
        for place in ([-1000, 1000], [1000, -1000]):
            self.assertEqual(last(begin(place), text([0, 0]), treasure(0)), [0, *place, 1])

    def test_a_refused_begin_changes_nothing(self):
        for refused in (begin(), begin(*[[1, 1]] * 5), begin([1, 1], [1]), begin([1, 1, 1]), begin([1001, 0])):
            with self.subTest(refused=refused):
                told = ask(STANDING, TO_OTHER, refused, treasure(0), needs(0), text([0, 1]), treasure(1))
                self.assertEqual(told, [[0], [0], [-1], [0, 7, 9, 1], [1, 1], [1], [0, 7, 9, 1]])

    def test_a_taken_begin_does_away_with_all_texts(self):
        told = ask(
            STANDING, TO_OTHER, TO_OTHER, begin([1, 2]),
            treasure(0), treasure(1), needs(0), tells(0, 0), same(0, 1),
            text([0, 1]), text([0, 0]), treasure(0), treasure(1),
        )
        self.assertEqual(told[3:9], [[0], [-2], [-2], [-2], [-2], [-2]])
        self.assertEqual(told[9:], [[-3, 0], [0], [0, 1, 2, 1], [-2]])


if __name__ == "__main__":
    unittest.main()
