"""Points 10 to 12: landmarks that are moved or gone from now on, and what there is on the map."""

import random
import unittest

from tests.helper import (
    BOUNDS, GALLOWS, apart, ask, begin, chance_place, chance_text, gone, last, line, look, lost, move, needs, same,
    tells, text, treasure,
)

HALF_ON = text([0, 0], [1, 1], [5])


class Move(unittest.TestCase):
    def test_one_that_stands_stands_there_from_now_on(self):
        told = ask(begin([1, 2], [3, 4]), move(0, [-5, 6]), look(), move(1, [7, -8]), look(), move(0, [0, 0]), look())
        self.assertEqual(told[1::2], [[0], [0], [0]])
        self.assertEqual(
            told[2::2], [[2, 1, -5, 6, 1, 3, 4, 0], [2, 1, -5, 6, 1, 7, -8, 0], [2, 1, 0, 0, 1, 7, -8, 0]]
        )

    def test_one_that_is_gone_stands_again(self):
        told = ask(begin([], [], []), move(1, [9, 9]), look(), move(2, [0, 0]), look())
        self.assertEqual(told[1:], [[0], [3, 0, 1, 9, 9, 0, 0], [0], [3, 0, 1, 9, 9, 1, 0, 0, 0]])

    def test_to_where_it_stands_and_to_where_another_stands(self):
        self.assertEqual(ask(begin([1, 2], [3, 4]), move(0, [1, 2]), look())[1:], [[0], [2, 1, 1, 2, 1, 3, 4, 0]])
        self.assertEqual(ask(begin([1, 2], [3, 4]), move(0, [3, 4]), look())[1:], [[0], [2, 1, 3, 4, 1, 3, 4, 0]])

    def test_bounds_of_each_number(self):
        for number, taken in BOUNDS:
            for place in ([number, 0], [0, number], [number, number]):
                for now in ([5, 5], []):
                    with self.subTest(place=place, now=now):
                        told = ask(begin(now), text([0, 0]), move(0, place), treasure(0))
                        still = [0, 5, 5, 1] if now else [-6, 0]
                        self.assertEqual(told[2:], [[0], [0, *place, 1]] if taken else [[-1], still])

    def test_no_such_landmark(self):
        for count in range(1, 5):
            for landmark in range(10):
                with self.subTest(count=count, landmark=landmark):
                    told = ask(begin(*[[]] * count), move(landmark, [3, 4]), look())
                    there = [0] * count
                    if landmark < count:
                        there[landmark:landmark + 1] = [1, 3, 4]
                    self.assertEqual(told[1:], [[0] if landmark < count else [-1], [count, *there, 0]])

    def test_a_refused_move_changes_nothing(self):
        for refused in (
            move(2, [1, 1]), move(9, [1, 1]), move(0, [1001, 1]), move(0, [-1001, 1]), move(0, [1, 1001]),
            move(0, [1, -1001]), move(1, [1001, 1]), move(3, [2000, -2000]),
        ):
            with self.subTest(refused=refused):
                told = ask(begin([4, 4], []), HALF_ON, look(), refused, look())
                self.assertEqual(told[2:], [[2, 1, 4, 4, 0, 1, 3], [-1], [2, 1, 4, 4, 0, 1, 3]])


class Gone(unittest.TestCase):
    def test_one_that_stands_is_gone_from_now_on(self):
        told = ask(begin([1, 2], [3, 4], [5, 6]), gone(1), look(), gone(0), look(), gone(2), look())
        self.assertEqual(
            told[1:], [[0], [3, 1, 1, 2, 0, 1, 5, 6, 0], [0], [3, 0, 0, 1, 5, 6, 0], [0], [3, 0, 0, 0, 0]]
        )

    def test_one_that_is_gone_already(self):
        self.assertEqual(ask(begin([1, 2], []), gone(1), look(), gone(1), look())[1:], [[0], [2, 1, 1, 2, 0, 0]] * 2)
        self.assertEqual(ask(begin([0, 0]), gone(0), gone(0), look())[1:], [[0], [0], [1, 0, 0]])

    def test_no_such_landmark(self):
        for count in range(1, 5):
            for landmark in range(10):
                with self.subTest(count=count, landmark=landmark):
                    told = ask(begin(*[[3, 4]] * count), gone(landmark), look())
                    there = [[1, 3, 4]] * count
                    if landmark < count:
                        there[landmark] = [0]
                    answer = [count, *[number for one in there for number in one], 0]
                    self.assertEqual(told[1:], [[0] if landmark < count else [-1], answer])

    def test_gone_and_moved_by_turns(self):
        told = ask(
            begin([1, 2]), text([0, 0]), gone(0), treasure(0), move(0, [3, 4]), treasure(0), gone(0), treasure(0),
            move(0, [0, 0]), treasure(0),
        )
        self.assertEqual(told[2:], [[0], [-6, 0], [0], [0, 3, 4, 1], [0], [-6, 0], [0], [0, 0, 0, 1]])


class FromNowOn(unittest.TestCase):
    MAP = (begin([0, 0], [2, 4], [9, 9]), HALF_ON, text([0, 1]))

    def after(self, *calls):
        asked = (treasure(0), lost(0, 1, [6, 6]), line(0, 1, [0, 0], [2, 0]), apart(0, 1))
        return ask(*self.MAP, *calls, *asked)[3 + len(calls):]

    def test_as_it_was(self):
        self.assertEqual(self.after(), [[0, 3, 6, 1], [0, 4, 4, 1], [0, 0, 0, 1, 3, 0, 1], [5, 1]])

    def test_another_is_moved(self):
        self.assertEqual(
            self.after(move(0, [3, 0])), [[0, 3, 12, 2], [0, 5, 4, 1], [0, -3, 0, 2, 3, 0, 2], [17, 4]]
        )

    def test_the_one_itself_is_moved(self):
        self.assertEqual(
            self.after(move(1, [4, -2])), [[0, 6, -3, 1], [0, 4, 4, 1], [0, 0, 0, 1, 3, 0, 1], [5, 1]]
        )

    def test_another_is_gone(self):
        self.assertEqual(self.after(gone(0)), [[-6, 0]] * 4)

    def test_the_one_itself_is_gone(self):
        self.assertEqual(self.after(gone(1)), [[-6, 1], [0, 4, 4, 1], [0, 0, 0, 1, 3, 0, 1], [-6, 1]])

    def test_one_that_is_not_needed_is_moved_or_gone(self):
        self.assertEqual(self.after(move(2, [0, 0])), self.after())
        self.assertEqual(self.after(gone(2)), self.after())

    def test_refused_ones(self):
        self.assertEqual(self.after(gone(3), move(3, [1, 1]), move(0, [0, 1001])), self.after())

    def test_the_texts_stay(self):
        asked = (needs(0), tells(0, 0), tells(0, 1), same(0, 1), same(0, 0), needs(1), needs(2))
        before = ask(*self.MAP, *asked)[3:]
        for calls in ([move(0, [5, 5])], [gone(0)], [gone(0), gone(1), gone(2)], [gone(1), move(1, [0, 7])]):
            with self.subTest(calls=calls):
                told = ask(*self.MAP, *calls, *asked, text([0, 2]))
                self.assertEqual(told[3 + len(calls):], before + [[2]])

    def test_a_new_map_has_its_own_places(self):
        told = ask(begin([1, 1], [2, 2]), move(0, [8, 8]), gone(1), begin([1, 1], [2, 2]), look())
        self.assertEqual(told[4], [2, 1, 1, 1, 1, 2, 2, 0])

    def test_as_if_they_had_stood_so_from_the_beginning(self):
        chance = random.Random(11)
        for turn in range(300):
            count = chance.randint(1, 4)
            landmarks = [chance.choice([chance_place(chance), []]) for k in range(count)]
            texts = [text(*chance_text(chance, count)) for number in (0, 1)]
            asked = [treasure(0), lost(1, 0, [3, 4]), line(0, count - 1, [1, 2], [3, 4]), apart(0, 1), look()]
            calls = []
            after = list(landmarks)
            for change in range(chance.randint(1, 5)):
                landmark, place = chance.randrange(count), chance.choice([chance_place(chance), []])
                calls.append(move(landmark, place) if place else gone(landmark))
                after[landmark] = place
            with self.subTest(landmarks=landmarks, texts=texts, calls=calls):
                told = ask(begin(*landmarks), *texts, *calls, *asked)
                self.assertEqual(told[3:-5], [[0]] * len(calls))
                self.assertEqual(told[-5:], ask(begin(*after), *texts, *asked)[3:])


class Look(unittest.TestCase):
    def test_landmarks_that_stand_and_that_are_gone(self):
        self.assertEqual(last(begin([1, 2]), look()), [1, 1, 1, 2, 0])
        self.assertEqual(last(begin([]), look()), [1, 0, 0])
        self.assertEqual(last(begin([0, 0]), look()), [1, 1, 0, 0, 0])
        self.assertEqual(last(begin([], [-3, 4], [], [1000, -1000]), look()), [4, 0, 1, -3, 4, 0, 1, 1000, -1000, 0])
        self.assertEqual(last(begin([], [], [], []), look()), [4, 0, 0, 0, 0, 0])

    def test_up_to_four_texts_of_different_lengths(self):
        texts = [text([0, 0]), text(*GALLOWS), text([0, 0], *[[6]] * 13), text([0, 2], [1, 1], [5])]
        lengths = [1, 11, 14, 3]
        for count in range(5):
            with self.subTest(count=count):
                told = last(begin([], [0, 0], [9, 0]), *texts[:count], look())
                self.assertEqual(told, [3, 0, 1, 0, 0, 1, 9, 0, count, *lengths[:count]])

    def test_after_each_call_taken_and_refused(self):
        told = ask(
            begin([1, 1], []), look(),
            text([0, 0], [1, 1]), look(),
            text(), look(),
            text([0, 2]), look(),
            text([0, 0], *[[5]] * 9), look(),
            text([0, 1]), look(),
            move(1, [2, 3]), look(),
            move(1, [2, 1001]), look(),
            gone(0), look(),
            gone(2), look(),
            begin([1]), look(),
            begin([7, 7]), look(),
        )
        self.assertEqual(
            [one[0] for one in told[::2]], [0, 0, -1, -3, -4, 1, 0, -1, 0, -1, -1, 0],
        )
        one, two = [2, 1, 1, 1, 0, 1, 2], [2, 1, 1, 1, 0, 2, 2, 1]
        moved, left = [2, 1, 1, 1, 1, 2, 3, 2, 2, 1], [2, 0, 1, 2, 3, 2, 2, 1]
        self.assertEqual(
            told[1::2],
            [[2, 1, 1, 1, 0, 0], one, one, one, one, two, moved, moved, left, left, left, [1, 1, 7, 7, 0]],
        )

    def test_a_fifth_text_is_not_there(self):
        told = ask(begin([1, 1]), *[text([0, 0], [6])] * 5, look())
        self.assertEqual(told[5:], [[-5], [1, 1, 1, 1, 4, 2, 2, 2, 2]])

    def test_looking_changes_nothing(self):
        asked = (treasure(0), needs(0), look())
        told = ask(begin([1, 1], [3, 3]), HALF_ON, *asked, look(), look(), *asked)
        self.assertEqual(told[2:5], told[7:])
        self.assertEqual(told[4:6], told[6:7] * 2)


if __name__ == "__main__":
    unittest.main()
