"""Point 9: how far from one another two treasures lie, the square of it."""

import random
import unittest

from tests.helper import (
    GALLOWS, apart, ask, begin, chance_place, chance_text, followed, last, look, needed_by, same, text,
)


def far(landmarks, one, other):
    return last(begin(*landmarks), text(*one), text(*other), apart(0, 1))


class Far(unittest.TestCase):
    def test_whole_squares(self):
        self.assertEqual(far([[0, 0], [3, 4]], [[0, 0]], [[0, 1]]), [25, 1])
        self.assertEqual(far([[1, 1], [0, 1]], [[0, 0]], [[0, 1]]), [1, 1])
        self.assertEqual(far([[-2, 5], [1, -1]], [[0, 0]], [[0, 1]]), [45, 1])

    def test_to_the_east_alone_and_to_the_north_alone(self):
        self.assertEqual(far([[7, 2], [-4, 2]], [[0, 0]], [[0, 1]]), [121, 1])
        self.assertEqual(far([[7, 2], [7, -8]], [[0, 0]], [[0, 1]]), [100, 1])

    def test_it_is_as_far_there_as_back(self):
        told = ask(begin([1, 2], [4, 9]), text([0, 0], [1, 1], [5]), text([0, 0]), apart(0, 1), apart(1, 0))
        self.assertEqual(told[3:], [[261, 2], [261, 2]])

    def test_broken_squares_in_lowest_terms(self):
        half_on = [[0, 0], [1, 1], [5]]
        self.assertEqual(far([[0, 0], [1, 0]], half_on, [[0, 1]]), [1, 4])
        self.assertEqual(far([[0, 0], [1, 1]], half_on, [[0, 1]]), [1, 2])
        self.assertEqual(far([[0, 0], [2, 0]], half_on, [[0, 1]]), [1, 1])
        self.assertEqual(far([[0, 0], [2, 2]], half_on, [[0, 1]]), [2, 1])
        self.assertEqual(far([[0, 0], [1, 2]], half_on, [[0, 0]]), [45, 4])

    def test_both_lie_at_broken_places(self):
        middle = [[0, 0], [6], [1, 1], [6], [7, 0, 1]]
        half_on = [[0, 0], [1, 1], [5]]
        self.assertEqual(far([[0, 0], [1, 3]], middle, half_on), [10, 1])
        self.assertEqual(far([[0, 0], [1, 3]], half_on, middle), [10, 1])

    def test_nothing_apart(self):
        self.assertEqual(far([[5, 6], [5, 6]], [[0, 0]], [[0, 1]]), [0, 1])
        self.assertEqual(far([[5, 6], [9, 9]], [[0, 0], [1, 1]], [[0, 1]]), [0, 1])
        half_on = [[0, 0], [1, 1], [5]]
        back_on = [[0, 1], [1, 0], [3, 2], [5], [5], [5]]
        self.assertEqual(far([[0, 0], [3, 0], [9, 0]], half_on, back_on), [0, 1])

    def test_a_text_and_itself(self):
        for sayings in ([[0, 0]], [[0, 0], [1, 1], [5]], [[0, 1], [1, 0], [3, 1], [4, 3]]):
            with self.subTest(sayings=sayings):
                self.assertEqual(last(begin([3, 4], [8, -5]), text(*sayings), apart(0, 0)), [0, 1])

    def test_the_gallows_is_not_needed(self):
        self.assertEqual(far([[], [0, 0], [10, 0]], GALLOWS, [[0, 1]]), [50, 1])
        self.assertEqual(far([[], [0, 0], [11, 0]], GALLOWS, [[0, 2]]), [121, 2])

    def test_very_far(self):
        farther = [[0, 0]] + [saying for k in range(6) for saying in ([1, (k + 1) % 2], [4, 3])]
        places = [[-1000, 1000], [1000, -1000]]
        there = followed(farther, places)
        square = (there[0] + 1000) ** 2 + (there[1] - 1000) ** 2
        self.assertEqual(far(places, farther, [[0, 0]]), [square.numerator, square.denominator])

    def test_finer_than_256_parts(self):
        fine = [[0, 0], [6], [1, 1], [5], [6], [7, 0, 1], [5], [6], [7, 0, 2], [5], [6], [7, 0, 3], [5]]
        told = far([[0, 0], [1, 0]], fine, [[0, 0]])
        self.assertEqual(told, [followed(fine, [[0, 0], [1, 0]])[0].numerator ** 2, 128 * 128])

    def test_the_map_stays_as_it_was(self):
        calls = [begin([1, 1], [2, 2], []), text([0, 0]), text([0, 1]), text([0, 2]), look()]
        told = ask(*calls, apart(0, 1), apart(0, 2), apart(0, 9), look())
        self.assertEqual(told[5:8], [[2, 1], [-6, 2], [-2]])
        self.assertEqual(told[4], told[8])


class Refused(unittest.TestCase):
    def test_no_such_text_of_either(self):
        for one in range(10):
            for other in range(10):
                told = last(begin([1, 1], [2, 3]), text([0, 0]), text([0, 1]), apart(one, other))
                with self.subTest(one=one, other=other):
                    if one < 2 and other < 2:
                        self.assertEqual(told, [0, 1] if one == other else [5, 1])
                    else:
                        self.assertEqual(told, [-2])

    def test_without_any_text(self):
        self.assertEqual(last(begin([1, 1]), apart(0, 0)), [-2])

    def test_no_such_text_comes_ahead_of_gone(self):
        self.assertEqual(last(begin([], []), text([0, 0]), apart(0, 1)), [-2])
        self.assertEqual(last(begin([], []), text([0, 0]), apart(1, 0)), [-2])

    def test_gone_in_the_first(self):
        self.assertEqual(far([[], [1, 1]], [[0, 0]], [[0, 1]]), [-6, 0])
        self.assertEqual(far([[], [1, 1], []], [[0, 2], [1, 0], [5]], [[0, 1]]), [-6, 0])

    def test_gone_in_the_second_alone(self):
        self.assertEqual(far([[1, 1], []], [[0, 0]], [[0, 1]]), [-6, 1])
        self.assertEqual(far([[1, 1], [], []], [[0, 0]], [[0, 2], [1, 1], [5]]), [-6, 1])

    def test_the_first_texts_come_ahead_of_the_seconds(self):
        self.assertEqual(far([[], [], []], [[0, 2]], [[0, 0]]), [-6, 2])
        self.assertEqual(far([[], [], []], [[0, 0]], [[0, 2]]), [-6, 0])
        self.assertEqual(far([[], [], [], []], [[0, 3], [1, 2], [5]], [[0, 1], [1, 0], [5]]), [-6, 2])
        self.assertEqual(far([[], [], [], []], [[0, 1], [1, 0], [5]], [[0, 3], [1, 2], [5]]), [-6, 0])

    def test_gone_though_both_lead_to_one_place(self):
        told = ask(begin([]), text([0, 0]), text([0, 0], [1, 0]), same(0, 1), apart(0, 1), apart(0, 0))
        self.assertEqual(told[3:], [[1], [-6, 0], [-6, 0]])
        # What both need alike falls out of what lies between them, but it's needed all the same.
        self.assertEqual(far([[], [1, 1]], [[0, 0], [1, 1], [4, 1]], [[0, 0], [1, 1], [4, 1]]), [-6, 0])

    def test_gone_without_being_needed(self):
        self.assertEqual(far([[], [1, 1], [2, 3], []], [[0, 0], [1, 1]], [[0, 3], [1, 2]]), [5, 1])


class ByChance(unittest.TestCase):
    def test_as_when_both_are_followed(self):
        chance = random.Random(10)
        for turn in range(600):
            places = [chance_place(chance) for k in range(chance.randint(1, 4))]
            landmarks = [[] if chance.random() < 0.2 else place for place in places]
            one, other = chance_text(chance, len(places)), chance_text(chance, len(places))
            missing = [
                k for sayings in (one, other) for k in needed_by(sayings, len(places)) if landmarks[k] == []
            ]
            there, that = followed(one, places), followed(other, places)
            square = (there[0] - that[0]) ** 2 + (there[1] - that[1]) ** 2
            with self.subTest(landmarks=landmarks, one=one, other=other):
                answer = [-6, missing[0]] if missing else [square.numerator, square.denominator]
                self.assertEqual(far(landmarks, one, other), answer)


if __name__ == "__main__":
    unittest.main()
