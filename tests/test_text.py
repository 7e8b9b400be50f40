"""Point 2: which texts are taken, which refused, and how."""

import unittest

from tests.helper import ask, begin, last, same, text, treasure

MAP = begin([1, 2], [3, 5], [])
LENGTHS = {0: 2, 1: 2, 2: 2, 3: 2, 4: 2, 5: 1, 6: 1, 7: 3}


def told(*sayings):
    return last(MAP, text(*sayings))


class Form(unittest.TestCase):
    def test_each_sort_with_as_many_numbers_as_it_has(self):
        for sort, length in LENGTHS.items():
            if sort == 0:
                continue
            saying = {3: [3, 1], 4: [4, 1], 7: [7, 0, 0]}.get(sort, [sort, 0][:length])
            with self.subTest(saying=saying):
                self.assertEqual(told([0, 0], [6], saying), [0])

    def test_each_sort_with_fewer_and_with_more(self):
        for sort, length in LENGTHS.items():
            for wrong in range(1, 5):
                if wrong == length:
                    continue
                saying = [sort] + [1] * (wrong - 1)
                with self.subTest(saying=saying):
                    if sort == 0:
                        self.assertEqual(told(saying), [-1])
                        self.assertEqual(told(saying, [6]), [-1])
                    else:
                        self.assertEqual(told([0, 0], [6], [6], saying), [-1])

    def test_an_empty_saying(self):
        self.assertEqual(told([]), [-1])
        self.assertEqual(told([], [0, 0]), [-1])
        self.assertEqual(told([0, 0], []), [-1])
        self.assertEqual(told([0, 0], [], [6]), [-1])

    def test_sorts_that_there_are_not(self):
        for sort in (8, 9):
            for more in range(4):
                with self.subTest(sort=sort, more=more):
                    self.assertEqual(told([0, 0], [sort] + [1] * more), [-1])
                    self.assertEqual(told([sort] + [1] * more), [-1])

    def test_how_many_sayings(self):
        self.assertEqual(told(), [-1])
        for count, answer in ((1, 0), (2, 0), (13, 0), (14, 0), (15, -1), (16, -1), (20, -1)):
            with self.subTest(count=count):
                self.assertEqual(told([0, 0], *[[6]] * (count - 1)), [answer])

    def test_a_text_that_does_not_begin_with_sort_0(self):
        for saying in ([1, 0], [2, 0], [3, 1], [4, 1], [5], [6], [7, 0, 0]):
            with self.subTest(saying=saying):
                self.assertEqual(told(saying), [-1])
                self.assertEqual(told(saying, [0, 0]), [-1])

    def test_a_second_saying_of_sort_0(self):
        self.assertEqual(told([0, 0], [0, 0]), [-1])
        self.assertEqual(told([0, 0], [6], [1, 1], [0, 1]), [-1])
        self.assertEqual(told([0, 0], [0, 1], [6]), [-1])


class NotThere(unittest.TestCase):
    def test_landmarks(self):
        for count in range(1, 5):
            for landmark in range(10):
                with self.subTest(count=count, landmark=landmark):
                    standing = begin(*[[1, 1]] * count)
                    there = landmark < count
                    self.assertEqual(last(standing, text([0, landmark])), [0] if there else [-3, 0])
                    self.assertEqual(last(standing, text([0, 0], [1, landmark])), [0] if there else [-3, 1])

    def test_a_gone_landmark_is_there(self):
        self.assertEqual(told([0, 2]), [0])
        self.assertEqual(told([0, 0], [1, 2]), [0])

    def test_pegs_that_were_driven_by_then(self):
        for pegs in range(4):
            driven = [[6]] * pegs
            for peg in range(10):
                with self.subTest(pegs=pegs, peg=peg):
                    answer = [0] if peg < pegs else [-3, 1 + pegs]
                    self.assertEqual(told([0, 0], *driven, [2, peg]), answer)
                    self.assertEqual(told([0, 0], *driven, [7, peg, peg]), answer)
                    if pegs > 0:
                        self.assertEqual(told([0, 0], *driven, [7, peg, 0]), answer)
                        self.assertEqual(told([0, 0], *driven, [7, 0, peg]), answer)

    def test_a_peg_that_is_driven_only_later(self):
        self.assertEqual(told([0, 0], [2, 0], [6]), [-3, 1])
        self.assertEqual(told([0, 0], [6], [7, 0, 1], [6]), [-3, 2])
        self.assertEqual(told([0, 0], [6], [7, 1, 0], [6]), [-3, 2])

    def test_going_to_peg_6_drives_none(self):
        self.assertEqual(told([0, 0], *[[6]] * 7, [2, 6], [2, 7]), [-3, 9])

    def test_pegs_of_another_text_do_not_count(self):
        self.assertEqual(ask(MAP, text([0, 0], [6]), text([0, 0], [2, 0]))[1:], [[0], [-3, 1]])

    def test_turns_and_times(self):
        for number in range(10):
            answer = [0] if number in (1, 2, 3) else [-3, 1]
            with self.subTest(number=number):
                self.assertEqual(told([0, 0], [3, number]), answer)
                self.assertEqual(told([0, 0], [4, number]), answer)

    def test_the_first_such_saying_is_told(self):
        self.assertEqual(told([0, 3], [1, 3], [3, 0]), [-3, 0])
        self.assertEqual(told([0, 0], [1, 2], [3, 0], [1, 3], [2, 0]), [-3, 2])
        self.assertEqual(told([0, 0], *[[6]] * 12, [4, 4]), [-3, 13])
        self.assertEqual(told([0, 0], [6], [4, 0], [2, 1]), [-3, 2])


class TooFine(unittest.TestCase):
    def test_eight_and_nine_of_the_sorts_5_and_7(self):
        for fives in range(10):
            for count, answer in ((7, 0), (8, 0), (9, -4), (12, -4)):
                if fives > count:
                    continue
                fine = [[5]] * fives + [[7, 0, 0]] * (count - fives)
                with self.subTest(fives=fives, count=count):
                    self.assertEqual(told([0, 0], [6], *fine), [answer])

    def test_other_sorts_do_not_count(self):
        self.assertEqual(told([0, 0], [6], *[[4, 1]] * 4, *[[2, 0]] * 4, *[[5]] * 4), [0])


class TextsFull(unittest.TestCase):
    def test_four_texts_are_taken_and_a_fifth_refused(self):
        one = text([0, 0])
        self.assertEqual(ask(MAP, one, one, one, one, one, one)[1:], [[0], [1], [2], [3], [-5], [-5]])

    def test_a_refused_text_takes_no_number_and_changes_nothing(self):
        answers = ask(
            MAP, text([0, 0]), text(), text([0, 9]), text([0, 0], *[[5]] * 9), text([0, 1]),
            text([0, 0]), text([0, 0]), text([0, 1]), treasure(0), treasure(1), same(0, 3), treasure(4),
        )
        self.assertEqual(answers[1:9], [[0], [-1], [-3, 0], [-4], [1], [2], [3], [-5]])
        self.assertEqual(answers[9:], [[0, 1, 2, 1], [0, 3, 5, 1], [1], [-2]])


class SeveralAtOnce(unittest.TestCase):
    def setUp(self):
        self.full = [MAP] + [text([0, 0])] * 4

    def test_form_comes_first(self):
        fine = [[5]] * 9
        for sayings in (
            [[0, 9], [8]],
            [[0, 9], [0, 9]],
            [[0, 9], [5, 1]],
            [[1, 9]],
            [[0, 0], [3, 0], *fine, []],
            [[0, 0], *fine, [6], [6], [6], [6], [6]],
            [[0, 9]] + [[1, 9]] * 14,
        ):
            with self.subTest(sayings=sayings):
                self.assertEqual(told(*sayings), [-1])
                self.assertEqual(last(*self.full, text(*sayings)), [-1])

    def test_what_is_not_there_comes_ahead_of_too_fine_and_full(self):
        fine = [[5]] * 9
        self.assertEqual(told([0, 0], *fine, [1, 3]), [-3, 10])
        self.assertEqual(told([0, 3], *fine), [-3, 0])
        self.assertEqual(told([0, 0], *[[7, 0, 0]] * 9), [-3, 1])
        self.assertEqual(last(*self.full, text([0, 0], [4, 0])), [-3, 1])
        self.assertEqual(last(*self.full, text([0, 0], *fine, [2, 0])), [-3, 10])

    def test_too_fine_comes_ahead_of_full(self):
        self.assertEqual(last(*self.full, text([0, 0], *[[5]] * 9)), [-4])
        self.assertEqual(last(*self.full, text([0, 0], *[[5]] * 8)), [-5])


if __name__ == "__main__":
    unittest.main()
