"""Point 7: where a landmark must have stood, if the treasure lies at a place."""

import random
import unittest
from fractions import Fraction
from math import gcd

from tests.helper import (
    BOUNDS, GALLOWS, ask, begin, chance_place, chance_text, followed, last, look, lost, needed_by, text, treasure,
)

# Landmark 0 tells 0 to the east and -2 to the north, landmark 1 tells 1 and 2.
LEFT_TWICE = ([0, 0], [1, 1], [3, 1], [4, 2])
# It needs 1, 2 and 3, and names 0.
LAST_THREE = ([0, 0], [1, 3], [1, 2], [4, 1], [1, 1], [4, 1])


def stood(landmarks, sayings, landmark, place):
    return last(begin(*landmarks), text(*sayings), lost(0, landmark, place))


class Stood(unittest.TestCase):
    def test_the_oak_and_the_rock(self):
        self.assertEqual(stood([[], [], [10, 0]], GALLOWS, 1, [5, 5]), [0, 0, 0, 1])
        self.assertEqual(stood([[], [0, 0], []], GALLOWS, 2, [5, 5]), [0, 10, 0, 1])
        self.assertEqual(stood([[], [0, 0], []], GALLOWS, 2, [6, -3]), [0, 3, -9, 1])

    def test_where_the_treasure_is_the_landmark(self):
        self.assertEqual(stood([[]], [[0, 0]], 0, [-7, 12]), [0, -7, 12, 1])
        self.assertEqual(stood([[3, 3]], [[0, 0]], 0, [0, 0]), [0, 0, 0, 1])

    def test_it_does_not_matter_whether_and_where_it_stands_now(self):
        for now in ([], [0, 0], [5, 5], [-1000, 1000]):
            with self.subTest(now=now):
                self.assertEqual(stood([now, [4, 0]], LEFT_TWICE, 0, [6, 8]), [0, 0, 1, 1])
                self.assertEqual(stood([[1, 1], now], LEFT_TWICE, 1, [1, 1]), [0, 1, 1, 1])

    def test_a_share_to_the_east_alone(self):
        # The landmarks tell -1/2 and 3/2.
        half_on = [[0, 0], [1, 1], [5]]
        self.assertEqual(stood([[], [4, 6]], half_on, 0, [5, 7]), [0, 2, 4, 1])
        self.assertEqual(stood([[2, 4], []], half_on, 1, [5, 7]), [0, 4, 6, 1])
        self.assertEqual(stood([[0, 0], []], half_on, 1, [1, 0]), [0, 2, 0, 3])
        self.assertEqual(stood([[0, 0], []], half_on, 1, [0, -1]), [0, 0, -2, 3])
        self.assertEqual(stood([[1, 0], []], half_on, 1, [-4, 5]), [0, -7, 10, 3])

    def test_a_share_to_the_north_alone(self):
        self.assertEqual(stood([[], [0, 0]], LEFT_TWICE, 0, [4, 6]), [0, -3, 2, 1])
        self.assertEqual(stood([[], [0, 0]], LEFT_TWICE, 0, [1, 0]), [0, 0, 1, 2])
        self.assertEqual(stood([[], [0, 0]], LEFT_TWICE, 0, [0, 1]), [0, -1, 0, 2])
        to_the_right = [[0, 0], [1, 1], [3, 3], [4, 3]]
        self.assertEqual(stood([[], [0, 0]], to_the_right, 0, [1, 2]), [0, 2, -1, 3])

    def test_a_share_to_both_sides(self):
        self.assertEqual(stood([[0, 0], []], LEFT_TWICE, 1, [1, 2]), [0, 1, 0, 1])
        self.assertEqual(stood([[0, 0], []], LEFT_TWICE, 1, [-2, 1]), [0, 0, 1, 1])
        self.assertEqual(stood([[0, 0], []], LEFT_TWICE, 1, [1, 0]), [0, 1, -2, 5])
        self.assertEqual(stood([[0, 0], []], LEFT_TWICE, 1, [0, 1]), [0, 2, 1, 5])
        self.assertEqual(stood([[0, 0], []], LEFT_TWICE, 1, [-1, 0]), [0, -1, 2, 5])
        self.assertEqual(stood([[3, -1], []], LEFT_TWICE, 1, [0, 0]), [0, 14, 2, 5])

    def test_the_third_number_is_in_lowest_terms_and_above_0(self):
        self.assertEqual(stood([[0, 0], []], LEFT_TWICE, 1, [5, 0]), [0, 1, -2, 1])
        self.assertEqual(stood([[0, 0], []], LEFT_TWICE, 1, [0, 0]), [0, 0, 0, 1])
        # Landmark 0 tells -3: what is divided by it is still told above 0.
        thrice = [[0, 0], [1, 1], [4, 3]]
        self.assertEqual(stood([[], [0, 0]], thrice, 0, [1, 2]), [0, -1, -2, 3])
        self.assertEqual(stood([[], [0, 0]], thrice, 0, [3, 6]), [0, -1, -2, 1])
        self.assertEqual(stood([[], [0, 0]], thrice, 0, [3, 1]), [0, -3, -1, 3])

    def test_far_outside_of_the_map(self):
        finest = [[0, 0], [6], [1, 1], [6], [7, 0, 1], [6], [7, 0, 2], [6], [7, 0, 3]]
        self.assertEqual(stood([[-1000, 1000], []], finest, 1, [1000, -1000]), [0, 15000, -15000, 1])

    def test_others_that_are_gone_without_being_needed(self):
        self.assertEqual(stood([[], [], [1, 0], [0, 0]], LAST_THREE, 1, [3, 1])[0], 0)
        self.assertEqual(
            stood([[], [], [1, 0], [0, 0]], LAST_THREE, 1, [3, 1]),
            stood([[9, 9], [], [1, 0], [0, 0]], LAST_THREE, 1, [3, 1]),
        )
        self.assertEqual(stood([[2, 2], [], []], [[0, 2], [1, 0]], 0, [8, 9]), [0, 8, 9, 1])

    def test_the_map_stays_as_it_was(self):
        calls = [begin([1, 1], [2, 2], []), text(*LEFT_TWICE), look(), treasure(0)]
        told = ask(*calls, lost(0, 1, [7, 7]), lost(0, 0, [7, 7]), lost(0, 2, [7, 7]), look(), treasure(0))
        self.assertEqual(told[2:4], told[7:9])


class Bounds(unittest.TestCase):
    def test_each_of_the_two_numbers(self):
        for number, taken in BOUNDS:
            for place in ([number, 0], [0, number], [number, number]):
                with self.subTest(place=place):
                    self.assertEqual(stood([[]], [[0, 0]], 0, place), [0, *place, 1] if taken else [-1])
        self.assertEqual(stood([[]], [[0, 0]], 0, [-1000, 1000]), [0, -1000, 1000, 1])
        self.assertEqual(stood([[]], [[0, 0]], 0, [1000, -1001]), [-1])
        self.assertEqual(stood([[]], [[0, 0]], 0, [1001, -1000]), [-1])


class Refused(unittest.TestCase):
    def test_no_such_text(self):
        for number in range(10):
            with self.subTest(number=number):
                self.assertEqual(last(begin([1, 1]), lost(number, 0, [0, 0])), [-2])
                told = last(begin([1, 1]), text([0, 0]), text([0, 0]), lost(number, 0, [3, 4]))
                self.assertEqual(told, [0, 3, 4, 1] if number < 2 else [-2])

    def test_no_such_landmark(self):
        for count in range(1, 5):
            for landmark in range(10):
                with self.subTest(count=count, landmark=landmark):
                    told = stood([[]] * count, [[0, 0]], landmark, [3, 4])
                    there = [-7] if landmark else [0, 3, 4, 1]
                    self.assertEqual(told, there if landmark < count else [-1])

    def test_not_needed(self):
        self.assertEqual(stood([[], [0, 0], [10, 0]], GALLOWS, 0, [5, 5]), [-7])
        self.assertEqual(stood([[3, 3], [0, 0], [10, 0]], GALLOWS, 0, [1, 2]), [-7])
        self.assertEqual(stood([[3, 3], []], [[0, 0]], 1, [3, 3]), [-7])

    def test_another_is_needed_that_is_gone(self):
        self.assertEqual(stood([[], [], []], GALLOWS, 1, [5, 5]), [-6, 2])
        self.assertEqual(stood([[], [], []], GALLOWS, 2, [5, 5]), [-6, 1])
        self.assertEqual(stood([[], [0, 0], []], GALLOWS, 1, [5, 5]), [-6, 2])

    def test_the_lowest_other_one_is_told(self):
        for landmark, others in ((1, (2, 3)), (2, (1, 3)), (3, (1, 2))):
            for now in ([], [4, 4]):
                for missing in ((others[0],), (others[1],), others):
                    landmarks = [[]] + [[k, k] for k in (1, 2, 3)]
                    landmarks[landmark] = now
                    for k in missing:
                        landmarks[k] = []
                    with self.subTest(landmark=landmark, landmarks=landmarks):
                        self.assertEqual(stood(landmarks, LAST_THREE, landmark, [1, 1]), [-6, missing[0]])


class SeveralAtOnce(unittest.TestCase):
    GONE = ([], [], [])

    def test_no_such_text_comes_first(self):
        for landmark, place in ((0, [5, 5]), (3, [5, 5]), (1, [1001, 0]), (9, [2000, -2000])):
            with self.subTest(landmark=landmark, place=place):
                self.assertEqual(last(begin(*self.GONE), text(*GALLOWS), lost(1, landmark, place)), [-2])

    def test_a_wrong_landmark_or_number_comes_ahead_of_not_needed_and_gone(self):
        self.assertEqual(stood(self.GONE, GALLOWS, 3, [5, 5]), [-1])
        self.assertEqual(stood(self.GONE, GALLOWS, 3, [1001, 0]), [-1])
        for landmark in (0, 1, 2):
            for place in ([1001, 0], [-1001, 0], [0, 1001], [0, -1001]):
                with self.subTest(landmark=landmark, place=place):
                    self.assertEqual(stood(self.GONE, GALLOWS, landmark, place), [-1])

    def test_not_needed_comes_ahead_of_gone(self):
        self.assertEqual(stood(self.GONE, GALLOWS, 0, [5, 5]), [-7])
        self.assertEqual(stood([[1, 1], [], [2, 2]], GALLOWS, 0, [5, 5]), [-7])


class ByChance(unittest.TestCase):
    def test_from_there_the_text_leads_to_the_place(self):
        chance = random.Random(7)
        seen = {}
        for turn in range(600):
            places = [chance_place(chance) for k in range(chance.randint(1, 4))]
            sayings = chance_text(chance, len(places))
            landmark = chance.randrange(len(places))
            found = chance_place(chance)
            landmarks = list(places)
            landmarks[landmark] = chance.choice([[], places[landmark]])
            with self.subTest(landmarks=landmarks, sayings=sayings, landmark=landmark, found=found):
                told = stood(landmarks, sayings, landmark, found)
                if landmark not in needed_by(sayings, len(places)):
                    self.assertEqual(told, [-7])
                    continue
                self.assertEqual((len(told), told[0]), (4, 0))
                self.assertGreater(told[3], 0)
                self.assertEqual(gcd(*told[1:]), 1)
                places[landmark] = [Fraction(told[1], told[3]), Fraction(told[2], told[3])]
                self.assertEqual(followed(sayings, places), tuple(found))
                seen[told[3]] = True
        # Some third number is no power of two.
        self.assertTrue([under for under in seen if under & (under - 1)])

    def test_with_landmarks_gone(self):
        chance = random.Random(8)
        for turn in range(600):
            landmarks = [chance.choice([chance_place(chance), []]) for k in range(chance.randint(1, 4))]
            sayings = chance_text(chance, len(landmarks))
            landmark = chance.randrange(len(landmarks))
            needed = needed_by(sayings, len(landmarks))
            missing = [k for k in needed if landmarks[k] == [] and k != landmark]
            with self.subTest(landmarks=landmarks, sayings=sayings, landmark=landmark):
                told = stood(landmarks, sayings, landmark, chance_place(chance))
                if landmark not in needed:
                    self.assertEqual(told, [-7])
                elif missing:
                    self.assertEqual(told, [-6, missing[0]])
                else:
                    self.assertEqual(told[0], 0)


if __name__ == "__main__":
    unittest.main()
