"""Points 4 to 6: what a text needs, how much each landmark tells, which texts lead to one place."""

import random
import unittest

from tests.helper import GALLOWS, as_told, ask, begin, chance_text, followed, last, needs, same, tells, text

THREE = begin([1, 1], [2, 2], [])


def moved_by(sayings, count, landmark):
    """By how much the treasure moves when a landmark is moved by a pace to the east."""
    places = [[k * k, 3 - k] for k in range(count)]
    before = followed(sayings, places)
    places[landmark] = [places[landmark][0] + 1, places[landmark][1]]
    after = followed(sayings, places)
    return (after[0] - before[0], after[1] - before[1])


class Needs(unittest.TestCase):
    def test_the_gallows_is_not_needed(self):
        self.assertEqual(last(begin([], [0, 0], []), text(*GALLOWS), needs(0)), [2, 1, 2])

    def test_none_of_the_others(self):
        self.assertEqual(last(THREE, text([0, 1]), needs(0)), [1, 1])
        self.assertEqual(last(THREE, text([0, 0], [1, 2], [1, 1]), needs(0)), [1, 1])
        self.assertEqual(last(begin([]), text([0, 0], [1, 0], [5]), needs(0)), [1, 0])

    def test_some(self):
        self.assertEqual(last(THREE, text([0, 2], [1, 0], [4, 2]), needs(0)), [2, 0, 2])

    def test_all_rising(self):
        self.assertEqual(last(THREE, text([0, 2], [1, 1], [4, 1], [1, 0], [4, 1]), needs(0)), [3, 0, 1, 2])
        four = begin([], [], [], [])
        self.assertEqual(
            last(four, text([0, 3], [1, 2], [4, 1], [1, 1], [4, 1], [1, 0], [3, 1], [4, 1]), needs(0)),
            [4, 0, 1, 2, 3],
        )

    def test_one_that_moves_the_treasure_to_one_side_alone_is_needed(self):
        sayings = [[0, 0], [1, 1], [3, 1], [4, 1], [6], [1, 1], [1, 0], [7, 0, 0]]
        self.assertEqual(ask(THREE, text(*sayings), needs(0), tells(0, 0))[2:], [[2, 0, 1], [0, 0, -1, 1]])
        straight = text([0, 0], [1, 1], [4, 1])
        self.assertEqual(ask(THREE, straight, needs(0), tells(0, 0))[2:], [[2, 0, 1], [0, -1, 0, 1]])

    def test_it_does_not_matter_where_they_stand(self):
        sayings = text([0, 0], [1, 1], [5])
        for landmarks in ([[0, 0], [0, 0]], [[], []], [[3, 4], []], [[1, 2], [1, 2]]):
            with self.subTest(landmarks=landmarks):
                self.assertEqual(last(begin(*landmarks), sayings, needs(0)), [2, 0, 1])

    def test_no_such_text(self):
        for number in range(10):
            with self.subTest(number=number):
                self.assertEqual(last(THREE, needs(number)), [-2])
                self.assertEqual(last(THREE, text([0, 0]), needs(number)), [-2] if number else [1, 0])

    def test_those_that_move_the_treasure(self):
        chance = random.Random(5)
        for turn in range(300):
            count = chance.randint(1, 4)
            sayings = chance_text(chance, count)
            with self.subTest(count=count, sayings=sayings):
                needed = [k for k in range(count) if moved_by(sayings, count, k) != (0, 0)]
                self.assertEqual(last(begin(*[[]] * count), text(*sayings), needs(0)), [len(needed)] + needed)


class Tells(unittest.TestCase):
    def test_the_gallows_tells_nothing(self):
        told = ask(begin([], [], []), text(*GALLOWS), tells(0, 0), tells(0, 1), tells(0, 2))
        self.assertEqual(told[2:], [[0, 0, 0, 1], [0, 1, -1, 2], [0, 1, 1, 2]])

    def test_above_0_below_0_and_0_to_the_east_and_to_the_north(self):
        found = {}
        for turns in (1, 2, 3):
            told = ask(THREE, text([0, 0], [1, 1], [3, turns], [5]), tells(0, 0), tells(0, 1), tells(0, 2))
            found[turns] = told[2:]
        nothing = [0, 0, 0, 1]
        self.assertEqual(found[1], [[0, 0, -1, 2], [0, 2, 1, 2], nothing])
        self.assertEqual(found[2], [[0, 1, 0, 2], [0, 1, 0, 2], nothing])
        self.assertEqual(found[3], [[0, 0, 1, 2], [0, 2, -1, 2], nothing])
        straight = ask(THREE, text([0, 0], [1, 1], [4, 3]), tells(0, 0), tells(0, 1))
        self.assertEqual(straight[2:], [[0, -3, 0, 1], [0, 4, 0, 1]])

    def test_not_named_and_named_without_being_needed(self):
        self.assertEqual(last(THREE, text([0, 0]), tells(0, 1)), [0, 0, 0, 1])
        self.assertEqual(last(THREE, text([0, 1], [1, 0]), tells(0, 1)), [0, 0, 0, 1])

    def test_the_finest_there_is(self):
        sayings = [[0, 0], [6], [1, 1], [5], [6], [7, 0, 1], [5], [6], [7, 0, 2], [5], [6], [7, 0, 3], [5]]
        told = ask(THREE, text(*sayings), tells(0, 0), tells(0, 1))
        self.assertEqual(told[2], [0] + as_told(moved_by(sayings, 2, 0)))
        self.assertEqual(told[3], [0] + as_told(moved_by(sayings, 2, 1)))
        self.assertEqual((told[2][3], told[3][3]), (128, 128))

    def test_a_gone_landmark_tells_as_much(self):
        sayings = text([0, 0], [1, 1], [5])
        for landmarks in ([[], []], [[7, 7], []], [[], [7, 7]], [[0, 0], [0, 0]]):
            told = ask(begin(*landmarks), sayings, tells(0, 0), tells(0, 1))
            self.assertEqual(told[2:], [[0, -1, 0, 2], [0, 3, 0, 2]])

    def test_no_such_landmark(self):
        for count in range(1, 5):
            for landmark in range(10):
                with self.subTest(count=count, landmark=landmark):
                    told = last(begin(*[[]] * count), text([0, 0]), tells(0, landmark))
                    there = [0, 0 if landmark else 1, 0, 1]
                    self.assertEqual(told, there if landmark < count else [-1])

    def test_no_such_text_comes_ahead_of_no_such_landmark(self):
        self.assertEqual(last(THREE, tells(0, 0)), [-2])
        self.assertEqual(last(THREE, text([0, 0]), tells(1, 0)), [-2])
        self.assertEqual(last(THREE, text([0, 0]), tells(1, 3)), [-2])
        self.assertEqual(last(THREE, text([0, 0]), tells(9, 9)), [-2])
        self.assertEqual(last(THREE, text([0, 0]), tells(0, 3)), [-1])

    def test_by_how_much_the_treasure_moves(self):
        chance = random.Random(6)
        for turn in range(300):
            count = chance.randint(1, 4)
            sayings = chance_text(chance, count)
            calls = [tells(0, k) for k in range(count)]
            with self.subTest(count=count, sayings=sayings):
                told = ask(begin(*[[]] * count), text(*sayings), *calls)
                self.assertEqual(told[2:], [[0] + as_told(moved_by(sayings, count, k)) for k in range(count)])


class Same(unittest.TestCase):
    def agree(self, one, other, landmarks=([], [], [])):
        told = ask(begin(*landmarks), text(*one), text(*other), same(0, 1), same(1, 0))
        self.assertEqual(told[3], told[4])
        return told[3]

    def test_the_treasure_of_the_gallows_in_other_words(self):
        for turns, answer in ((1, [0]), (2, [0]), (3, [1])):
            halfway = [[0, 1], [6], [1, 2], [6], [7, 0, 1], [3, turns], [4, 1]]
            with self.subTest(turns=turns):
                self.assertEqual(self.agree(GALLOWS, halfway), answer)
        other_way_round = [[0, 2], [6], [1, 1], [6], [7, 0, 1], [3, 1], [4, 1]]
        self.assertEqual(self.agree(GALLOWS, other_way_round), [1])

    def test_other_words(self):
        self.assertEqual(self.agree([[0, 0], [1, 1]], [[0, 1]]), [1])
        self.assertEqual(self.agree([[0, 0], [1, 1], [4, 2]], [[0, 0], [1, 1], [4, 1], [4, 1]]), [1])
        self.assertEqual(self.agree([[0, 0], [1, 1], [5], [5]], [[0, 0], [1, 1], [4, 1]]), [1])

    def test_not_the_same(self):
        self.assertEqual(self.agree([[0, 0]], [[0, 1]]), [0])
        self.assertEqual(self.agree([[0, 0], [1, 1], [5]], [[0, 0], [1, 1], [4, 1]]), [0])
        self.assertEqual(self.agree([[0, 0], [1, 1], [3, 1], [5]], [[0, 0], [1, 1], [3, 3], [5]]), [0])

    def test_it_does_not_matter_where_they_stand(self):
        for landmarks in ([[4, 4], [4, 4], [4, 4]], [[0, 0], [0, 0], [0, 0]], [[], [1, 1], []]):
            with self.subTest(landmarks=landmarks):
                self.assertEqual(self.agree([[0, 0]], [[0, 1]], landmarks), [0])
                self.assertEqual(self.agree([[0, 0], [1, 1]], [[0, 2], [1, 1]], landmarks), [1])

    def test_one_landmark_alone(self):
        self.assertEqual(self.agree([[0, 0]], [[0, 0], [1, 0], [4, 3], [6], [7, 0, 0]], [[]]), [1])

    def test_a_text_and_itself(self):
        self.assertEqual(last(THREE, text([0, 2], [1, 1], [5]), same(0, 0)), [1])

    def test_no_such_text_for_either(self):
        two = [THREE, text([0, 0]), text([0, 0])]
        self.assertEqual(last(*two, same(0, 1)), [1])
        for number in range(2, 10):
            with self.subTest(number=number):
                told = ask(*two, same(0, number), same(number, 0), same(number, number), same(number, 9))
                self.assertEqual(told[3:], [[-2]] * 4)
        self.assertEqual(last(THREE, same(0, 0)), [-2])

    def test_when_all_shares_agree(self):
        chance = random.Random(7)
        found = [0, 0]
        for turn in range(1500):
            count = chance.randint(2, 3)
            one = chance_text(chance, count)[:5]
            other = chance_text(chance, count)[:5]
            agree = all(moved_by(one, count, k) == moved_by(other, count, k) for k in range(count))
            found[agree] += 1
            with self.subTest(one=one, other=other):
                self.assertEqual(self.agree(one, other, [[]] * count), [int(agree)])
        self.assertGreater(min(found), 50)


if __name__ == "__main__":
    unittest.main()
