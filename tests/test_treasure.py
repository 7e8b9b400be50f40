"""Point 3: where the treasure lies."""

import random
import unittest

from tests.helper import GALLOWS, as_told, ask, begin, chance_text, followed, last, needs, text, treasure


def lies(landmarks, *sayings):
    return last(begin(*landmarks), text(*sayings), treasure(0))


class Gallows(unittest.TestCase):
    def test_the_gallows_is_gone(self):
        self.assertEqual(lies([[], [0, 0], [10, 0]], *GALLOWS), [0, 5, 5, 1])
        self.assertEqual(lies([[], [-3, 4], [5, 1]], *GALLOWS), [0, 5, 13, 2])

    def test_wherever_it_stood_the_treasure_lies_there(self):
        for gallows in ([0, 0], [1, 0], [-1000, 999], [1000, 1000]):
            with self.subTest(gallows=gallows):
                self.assertEqual(lies([gallows, [0, 0], [10, 0]], *GALLOWS), [0, 5, 5, 1])

    def test_the_oak_or_the_rock_is_gone(self):
        self.assertEqual(lies([[1, 1], [], [10, 0]], *GALLOWS), [-6, 1])
        self.assertEqual(lies([[1, 1], [0, 0], []], *GALLOWS), [-6, 2])
        self.assertEqual(lies([[], [], []], *GALLOWS), [-6, 1])


class EachSaying(unittest.TestCase):
    PLACES = ([1, 2], [11, 6])

    def test_stand(self):
        self.assertEqual(lies(self.PLACES, [0, 0]), [0, 1, 2, 1])
        self.assertEqual(lies(self.PLACES, [0, 1]), [0, 11, 6, 1])

    def test_go_to_a_landmark(self):
        self.assertEqual(lies(self.PLACES, [0, 0], [1, 1]), [0, 11, 6, 1])
        self.assertEqual(lies(self.PLACES, [0, 0], [1, 1], [4, 1]), [0, 21, 10, 1])

    def test_go_to_a_peg(self):
        self.assertEqual(lies(self.PLACES, [0, 0], [6], [1, 1], [2, 0]), [0, 1, 2, 1])
        self.assertEqual(lies(self.PLACES, [0, 0], [6], [1, 1], [2, 0], [4, 1]), [0, -9, -2, 1])
        self.assertEqual(lies(self.PLACES, [0, 0], [6], [1, 1], [6], [2, 0], [2, 1]), [0, 11, 6, 1])

    def test_turn_is_to_the_left(self):
        for turns, place in ((1, [7, 16]), (2, [1, 2]), (3, [15, -4])):
            with self.subTest(turns=turns):
                self.assertEqual(lies(self.PLACES, [0, 0], [1, 1], [3, turns], [4, 1]), [0, *place, 1])

    def test_turning_moves_nobody_and_adds_up(self):
        self.assertEqual(lies(self.PLACES, [0, 0], [1, 1], [3, 1]), [0, 11, 6, 1])
        self.assertEqual(lies(self.PLACES, [0, 0], [1, 1], [3, 3], [3, 2], [4, 1]), [0, 7, 16, 1])

    def test_go_on_once_to_thrice(self):
        for times in (1, 2, 3):
            with self.subTest(times=times):
                self.assertEqual(
                    lies(self.PLACES, [0, 0], [1, 1], [4, times]), [0, 11 + 10 * times, 6 + 4 * times, 1]
                )

    def test_the_way_stays_when_one_goes_on(self):
        self.assertEqual(lies(self.PLACES, [0, 0], [1, 1], [4, 3], [4, 1]), [0, 51, 22, 1])
        self.assertEqual(lies(self.PLACES, [0, 0], [1, 1], [5], [4, 1]), [0, 26, 12, 1])
        self.assertEqual(lies(self.PLACES, [0, 0], [1, 1], [5], [5]), [0, 21, 10, 1])

    def test_go_on_half_as_far(self):
        self.assertEqual(lies(self.PLACES, [0, 0], [1, 1], [5]), [0, 16, 8, 1])

    def test_driving_a_peg_moves_nobody_and_keeps_the_way(self):
        self.assertEqual(lies(self.PLACES, [0, 0], [1, 1], [6], [4, 1]), [0, 21, 10, 1])

    def test_go_halfway(self):
        pegs = [[0, 0], [6], [1, 1], [6]]
        self.assertEqual(lies(self.PLACES, *pegs, [7, 0, 1]), [0, 6, 4, 1])
        self.assertEqual(lies(self.PLACES, *pegs, [7, 1, 0]), [0, 6, 4, 1])
        self.assertEqual(lies(self.PLACES, *pegs, [7, 0, 0]), [0, 1, 2, 1])
        self.assertEqual(lies(self.PLACES, *pegs, [7, 1, 1]), [0, 11, 6, 1])

    def test_the_way_is_that_to_the_place_halfway(self):
        pegs = [[0, 0], [6], [1, 1], [6]]
        self.assertEqual(lies(self.PLACES, *pegs, [7, 0, 1], [4, 1]), [0, 1, 2, 1])
        self.assertEqual(lies(self.PLACES, *pegs, [2, 0], [7, 0, 1], [4, 2]), [0, 16, 8, 1])

    def test_a_way_of_no_paces(self):
        for saying in ([4, 1], [4, 3], [5], [3, 1]):
            with self.subTest(saying=saying):
                self.assertEqual(lies(self.PLACES, [0, 0], saying), [0, 1, 2, 1])
        self.assertEqual(lies(self.PLACES, [0, 0], [3, 2], [4, 2], [5]), [0, 1, 2, 1])
        self.assertEqual(lies(self.PLACES, [0, 0], [1, 1], [1, 1], [4, 3]), [0, 11, 6, 1])
        self.assertEqual(lies(self.PLACES, [0, 0], [6], [2, 0], [5]), [0, 1, 2, 1])
        self.assertEqual(lies(self.PLACES, [0, 0], [6], [1, 1], [2, 0], [7, 0, 0], [4, 1]), [0, 1, 2, 1])
        self.assertEqual(lies([[5, 5], [5, 5]], [0, 0], [1, 1], [3, 1], [4, 3]), [0, 5, 5, 1])


class Fractions(unittest.TestCase):
    def test_third_numbers_from_1_to_128(self):
        # Within 14 sayings each of 7 halvings can make the fraction finer, so 128 is the finest there is.
        sayings = [[0, 0], [6], [1, 1], [5], [6], [7, 0, 1], [5], [6], [7, 0, 2], [5], [6], [7, 0, 3], [5]]
        found = {}
        for end in range(1, len(sayings) + 1):
            told = lies([[0, 0], [1, 0]], *sayings[:end])
            self.assertEqual(told, [0] + as_told(followed(sayings[:end], [[0, 0], [1, 0]])))
            found[told[3]] = True
        self.assertEqual(sorted(found), [1, 2, 4, 8, 16, 32, 64, 128])

    def test_eight_halvings_that_do_not_cancel(self):
        sayings = [[0, 0], [6], [1, 1], [5], [6], [7, 0, 1], [5], [6], [7, 0, 2], [5], [6], [7, 0, 3], [5], [5]]
        for places in ([[0, 0], [1, 0]], [[-1, 7], [1000, -999]]):
            self.assertEqual(lies(places, *sayings), [0] + as_told(followed(sayings, places)))

    def test_only_one_of_the_two_is_no_whole_number(self):
        self.assertEqual(lies([[0, 0], [1, 2]], [0, 0], [1, 1], [5]), [0, 3, 6, 2])
        self.assertEqual(lies([[0, 0], [2, 1]], [0, 0], [1, 1], [5]), [0, 6, 3, 2])

    def test_lowest_terms(self):
        self.assertEqual(lies([[0, 0], [2, 4]], [0, 0], [1, 1], [5]), [0, 3, 6, 1])
        self.assertEqual(lies([[0, 0], [0, 0]], [0, 0], [1, 1], [5]), [0, 0, 0, 1])
        self.assertEqual(lies([[0, 0], [0, 1]], [0, 0], [1, 1], [5]), [0, 0, 3, 2])
        self.assertEqual(lies([[0, 0], [-1, 0]], [0, 0], [1, 1], [5]), [0, -3, 0, 2])

    def test_places_below_0(self):
        self.assertEqual(lies([[-3, -7]], [0, 0]), [0, -3, -7, 1])
        self.assertEqual(lies([[-3, -7], [-4, -8]], [0, 0], [1, 1], [5]), [0, -9, -17, 2])

    def test_places_far_off(self):
        sayings = [[0, 0]] + [saying for k in range(6) for saying in ([1, (k + 1) % 2], [4, 3])]
        places = [[-1000, 1000], [1000, -1000]]
        self.assertEqual(lies(places, *sayings), [0] + as_told(followed(sayings, places)))


class Gone(unittest.TestCase):
    def test_named_and_gone_but_not_needed(self):
        self.assertEqual(lies([[], [4, 5]], [0, 0], [1, 1]), [0, 4, 5, 1])
        self.assertEqual(lies([[4, 5], []], [0, 0], [6], [1, 1], [2, 0]), [0, 4, 5, 1])
        self.assertEqual(lies([[4, 5], []], [0, 0], [1, 1], [3, 2], [4, 1]), [0, 4, 5, 1])

    def test_gone_and_not_named(self):
        self.assertEqual(lies([[], [4, 5], []], [0, 1]), [0, 4, 5, 1])

    def test_the_lowest_needed_one_is_told(self):
        sayings = [[0, 3], [1, 2], [4, 1], [1, 1], [4, 1]]
        stand = [[1, 1], [2, 2], [3, 3], [4, 4]]
        for gone, answer in (([1, 2, 3], 1), ([2, 3], 2), ([3], 3), ([0, 3], 3), ([0, 1, 3], 1)):
            landmarks = [[] if k in gone else stand[k] for k in range(4)]
            with self.subTest(gone=gone):
                self.assertEqual(lies(landmarks, *sayings), [-6, answer])
        self.assertEqual(lies([[], *stand[1:]], *sayings)[0], 0)

    def test_no_such_text(self):
        standing = begin([1, 1], [])
        for number in range(10):
            with self.subTest(number=number):
                self.assertEqual(last(standing, treasure(number)), [-2])
                there = [[0, 1, 1, 1], [-6, 1]][number] if number < 2 else [-2]
                self.assertEqual(last(standing, text([0, 0]), text([0, 1]), treasure(number)), there)


class ByChance(unittest.TestCase):
    def test_as_when_it_is_followed_pace_by_pace(self):
        chance = random.Random(3)
        for turn in range(600):
            places = [[chance.randint(-1000, 1000) for number in (0, 1)] for k in range(chance.randint(1, 4))]
            sayings = chance_text(chance, len(places))
            with self.subTest(places=places, sayings=sayings):
                self.assertEqual(lies(places, *sayings), [0] + as_told(followed(sayings, places)))

    def test_with_landmarks_gone(self):
        chance = random.Random(4)
        for turn in range(400):
            places = [[chance.randint(-9, 9) for number in (0, 1)] for k in range(chance.randint(1, 4))]
            landmarks = [chance.choice([place, []]) for place in places]
            sayings = chance_text(chance, len(places))
            with self.subTest(landmarks=landmarks, sayings=sayings):
                told = ask(begin(*landmarks), text(*sayings), needs(0), treasure(0))
                missing = [k for k in told[2][1:] if landmarks[k] == []]
                there = [0] + as_told(followed(sayings, places))
                self.assertEqual(told[3], [-6, missing[0]] if missing else there)


if __name__ == "__main__":
    unittest.main()
