"""Point 8: where the treasure can be, if a landmark stood somewhere on a straight line."""

import random
import unittest

from tests.helper import (
    BOUNDS, GALLOWS, as_told, ask, begin, chance_place, chance_text, followed, last, line, look, needed_by, text,
    treasure,
)

# It needs 1, 2 and 3, and names 0.
LAST_THREE = ([0, 0], [1, 3], [1, 2], [4, 1], [1, 1], [4, 1])


def lies(landmarks, sayings, landmark, place, that_place):
    return last(begin(*landmarks), text(*sayings), line(0, landmark, place, that_place))


class Lies(unittest.TestCase):
    def test_the_oak_and_the_rock(self):
        self.assertEqual(lies([[], [], [10, 0]], GALLOWS, 1, [0, 0], [4, 2]), [0, 5, 5, 1, 8, 4, 1])
        self.assertEqual(lies([[], [0, 0], []], GALLOWS, 2, [10, 0], [1, 0]), [0, 5, 5, 1, 1, 1, 2])

    def test_the_first_place_comes_first(self):
        self.assertEqual(lies([[]], [[0, 0]], 0, [1, 2], [3, 4]), [0, 1, 2, 1, 3, 4, 1])
        self.assertEqual(lies([[]], [[0, 0]], 0, [3, 4], [1, 2]), [0, 3, 4, 1, 1, 2, 1])
        self.assertEqual(lies([[]], [[0, 0]], 0, [-1, 2], [3, -4]), [0, -1, 2, 1, 3, -4, 1])

    def test_each_place_is_in_lowest_terms_by_itself(self):
        half_on = [[0, 0], [1, 1], [5]]
        self.assertEqual(lies([[0, 0], []], half_on, 1, [2, 4], [1, -2]), [0, 3, 6, 1, 3, -6, 2])
        self.assertEqual(lies([[0, 0], []], half_on, 1, [-1, 0], [0, 0]), [0, -3, 0, 2, 0, 0, 1])

    def test_it_does_not_matter_whether_and_where_it_stands_now(self):
        for now in ([], [0, 0], [7, -7], [1000, 1000]):
            with self.subTest(now=now):
                self.assertEqual(
                    lies([[0, 0], now], [[0, 0], [1, 1], [4, 1]], 1, [1, 2], [3, 5]), [0, 2, 4, 1, 6, 10, 1]
                )
                self.assertEqual(
                    lies([now, [0, 0]], [[0, 0], [1, 1], [3, 1], [4, 1]], 0, [1, 2], [3, 5]), [0, 2, -1, 1, 5, -3, 1]
                )

    def test_not_needed_leaves_both_places_the_same(self):
        for gallows in ([], [8, 9]):
            with self.subTest(gallows=gallows):
                self.assertEqual(
                    lies([gallows, [0, 0], [11, 0]], GALLOWS, 0, [-5, 3], [700, 8]), [0, 11, 11, 2, 11, 11, 2]
                )
        self.assertEqual(lies([[4, 5], []], [[0, 0]], 1, [1, 1], [2, 2]), [0, 4, 5, 1, 4, 5, 1])

    def test_one_and_the_same_place_twice(self):
        self.assertEqual(lies([[], [0, 0], []], GALLOWS, 2, [11, 0], [11, 0]), [0, 11, 11, 2, 11, 11, 2])
        self.assertEqual(lies([[5, 5]], [[0, 0]], 0, [0, 0], [0, 0]), [0, 0, 0, 1, 0, 0, 1])

    def test_others_that_are_gone_without_being_needed(self):
        self.assertEqual(lies([[], [2, 2], []], [[0, 0], [1, 2], [1, 1]], 1, [1, 2], [3, 4]), [0, 1, 2, 1, 3, 4, 1])
        self.assertEqual(lies([[], [2, 2], []], [[0, 0], [1, 2], [1, 1]], 0, [1, 2], [3, 4]), [0, 2, 2, 1, 2, 2, 1])

    def test_the_map_stays_as_it_was(self):
        for landmarks in ([[], [0, 0], [10, 0]], [[3, 3], [0, 0], [10, 0]], [[], [0, 0], []]):
            calls = [begin(*landmarks), text(*GALLOWS), look(), treasure(0)]
            lines = [line(0, k, [70, 7], [7, 70]) for k in (0, 1, 2, 3)]
            with self.subTest(landmarks=landmarks):
                told = ask(*calls, *lines, look(), treasure(0))
                self.assertEqual(told[2:4], told[8:])


class Bounds(unittest.TestCase):
    def test_each_of_the_four_numbers(self):
        for number, taken in BOUNDS:
            for at in range(4):
                numbers = [1, 2, 3, 4]
                numbers[at] = number
                one, other = numbers[:2], numbers[2:]
                with self.subTest(numbers=numbers):
                    answer = [0, *one, 1, *other, 1] if taken else [-1]
                    self.assertEqual(lies([[]], [[0, 0]], 0, one, other), answer)
                    # So too of a landmark that isn't needed.
                    same = [0, 6, 6, 1, 6, 6, 1] if taken else [-1]
                    self.assertEqual(lies([[], [6, 6]], [[0, 1]], 0, one, other), same)

    def test_all_four_at_the_bounds(self):
        self.assertEqual(
            lies([[]], [[0, 0]], 0, [-1000, 1000], [1000, -1000]), [0, -1000, 1000, 1, 1000, -1000, 1]
        )


class Refused(unittest.TestCase):
    def test_no_such_text(self):
        for number in range(10):
            with self.subTest(number=number):
                self.assertEqual(last(begin([1, 1]), line(number, 0, [0, 0], [1, 1])), [-2])
                told = last(begin([1, 1]), text([0, 0]), text([0, 0]), line(number, 0, [3, 4], [5, 6]))
                self.assertEqual(told, [0, 3, 4, 1, 5, 6, 1] if number < 2 else [-2])

    def test_no_such_landmark(self):
        for count in range(1, 5):
            for landmark in range(10):
                with self.subTest(count=count, landmark=landmark):
                    told = lies([[1, 1]] * count, [[0, 0]], landmark, [3, 4], [5, 6])
                    there = [0, 1, 1, 1, 1, 1, 1] if landmark else [0, 3, 4, 1, 5, 6, 1]
                    self.assertEqual(told, there if landmark < count else [-1])

    def test_another_is_needed_that_is_gone(self):
        self.assertEqual(lies([[], [], []], GALLOWS, 1, [5, 5], [6, 6]), [-6, 2])
        self.assertEqual(lies([[], [], []], GALLOWS, 2, [5, 5], [6, 6]), [-6, 1])

    def test_one_that_is_not_needed_while_another_is_gone(self):
        self.assertEqual(lies([[1, 1], [], []], GALLOWS, 0, [5, 5], [6, 6]), [-6, 1])
        self.assertEqual(lies([[], [0, 0], []], GALLOWS, 0, [5, 5], [6, 6]), [-6, 2])

    def test_the_lowest_other_one_is_told(self):
        for landmark, others in ((0, (1, 2, 3)), (1, (2, 3)), (2, (1, 3)), (3, (1, 2))):
            for now in ([], [4, 4]):
                for start in range(len(others)):
                    missing = others[start:]
                    landmarks = [[k, k] for k in range(4)]
                    landmarks[landmark] = now
                    for k in missing:
                        landmarks[k] = []
                    with self.subTest(landmark=landmark, landmarks=landmarks):
                        self.assertEqual(lies(landmarks, LAST_THREE, landmark, [1, 1], [2, 2]), [-6, missing[0]])


class SeveralAtOnce(unittest.TestCase):
    GONE = ([], [], [])

    def test_no_such_text_comes_first(self):
        for landmark, one, other in (
            (1, [5, 5], [6, 6]), (3, [5, 5], [6, 6]), (1, [1001, 0], [0, 0]), (9, [0, 0], [0, -2000]),
        ):
            with self.subTest(landmark=landmark, one=one, other=other):
                self.assertEqual(last(begin(*self.GONE), text(*GALLOWS), line(1, landmark, one, other)), [-2])

    def test_a_wrong_landmark_or_number_comes_ahead_of_gone(self):
        self.assertEqual(lies(self.GONE, GALLOWS, 3, [5, 5], [6, 6]), [-1])
        for landmark in (0, 1, 2):
            for at in range(4):
                for number in (-1001, 1001):
                    numbers = [0, 0, 0, 0]
                    numbers[at] = number
                    with self.subTest(landmark=landmark, numbers=numbers):
                        self.assertEqual(lies(self.GONE, GALLOWS, landmark, numbers[:2], numbers[2:]), [-1])


class ByChance(unittest.TestCase):
    def test_as_when_it_is_followed_from_either_place(self):
        chance = random.Random(9)
        for turn in range(600):
            places = [chance_place(chance) for k in range(chance.randint(1, 4))]
            gone = [chance.random() < 0.3 for k in places]
            landmarks = [[] if gone[k] else place for k, place in enumerate(places)]
            sayings = chance_text(chance, len(places))
            landmark = chance.randrange(len(places))
            ends = [chance_place(chance), chance_place(chance)]
            missing = [k for k in needed_by(sayings, len(places)) if gone[k] and k != landmark]
            with self.subTest(landmarks=landmarks, sayings=sayings, landmark=landmark, ends=ends):
                answer = [0]
                for end in ends:
                    places[landmark] = end
                    answer += as_told(followed(sayings, places))
                told = lies(landmarks, sayings, landmark, *ends)
                self.assertEqual(told, [-6, missing[0]] if missing else answer)


if __name__ == "__main__":
    unittest.main()
