"""shows, round (called turned) and alike."""

import unittest

import model
from asking import ALIKE, SHOWS, TURNED, asked, begin, go


class Shows(unittest.TestCase):
    def test_the_highest_digit_first_in_several_bases(self):
        self.assertEqual(asked(begin(2, 6), SHOWS)[1], [3, 1, 1, 0])
        self.assertEqual(asked(begin(3, 100), SHOWS)[1], [5, 1, 0, 2, 0, 1])
        self.assertEqual(asked(begin(10, 1203), SHOWS)[1], [4, 1, 2, 0, 3])
        self.assertEqual(asked(begin(16, 43981), SHOWS)[1], [4, 10, 11, 12, 13])

    def test_changes_nothing(self):
        self.assertEqual(asked(begin(10, 12), SHOWS, SHOWS, go(1), SHOWS)[1:],
                         [[2, 1, 2], [2, 1, 2], [2], [2, 3, 3]])


class Turned(unittest.TestCase):
    def test_digits_from_behind_in_several_bases(self):
        self.assertEqual(asked(begin(2, 11), TURNED)[1], [4, 1, 1, 0, 1])
        self.assertEqual(asked(begin(7, 60), TURNED)[1], [3, 4, 1, 1])
        self.assertEqual(asked(begin(10, 1203), TURNED)[1], [4, 3, 0, 2, 1])
        self.assertEqual(asked(begin(16, 43981), TURNED)[1], [4, 13, 12, 11, 10])

    def test_noughts_that_come_first_do_not_count(self):
        self.assertEqual(asked(begin(10, 10), TURNED)[1], [1, 1])
        self.assertEqual(asked(begin(10, 1000000), TURNED)[1], [1, 1])
        self.assertEqual(asked(begin(10, 10200), TURNED)[1], [3, 2, 0, 1])
        self.assertEqual(asked(begin(2, 6), TURNED)[1], [2, 1, 1])
        self.assertEqual(asked(begin(16, 1000000), TURNED)[1], [4, 4, 2, 4, 15])

    def test_one_digit_alone(self):
        self.assertEqual(asked(begin(10, 7), TURNED)[1], [1, 7])
        self.assertEqual(asked(begin(2, 1), TURNED)[1], [1, 1])
        self.assertEqual(asked(begin(16, 15), TURNED)[1], [1, 15])

    def test_changes_nothing(self):
        self.assertEqual(asked(begin(10, 120), TURNED, SHOWS, TURNED)[1:],
                         [[2, 2, 1], [3, 1, 2, 0], [2, 2, 1]])


class Alike(unittest.TestCase):
    def test_1_if_it_is_itself_turned_round(self):
        for base, number in ((10, 121), (10, 1221), (10, 7), (2, 9), (2, 1), (3, 4), (16, 255), (16, 0xABA)):
            with self.subTest(base=base, number=number):
                self.assertEqual(asked(begin(base, number), ALIKE, SHOWS)[1:],
                                 [[1], asked(begin(base, number), SHOWS)[1]])

    def test_0_if_it_is_not(self):
        for base, number in ((10, 122), (10, 1231), (10, 89), (2, 10), (2, 11), (3, 5), (16, 121), (16, 0xABC)):
            with self.subTest(base=base, number=number):
                self.assertEqual(asked(begin(base, number), ALIKE, SHOWS)[1:],
                                 [[0], asked(begin(base, number), SHOWS)[1]])

    def test_0_where_it_ends_in_noughts(self):
        # Without its noughts 1210 would read alike; with them it doesn't.
        for base, number in ((10, 10), (10, 1210), (2, 6), (16, 0x110)):
            with self.subTest(base=base, number=number):
                self.assertEqual(asked(begin(base, number), ALIKE)[1], [0])

    def test_the_same_digits_in_another_base(self):
        self.assertEqual(asked(begin(10, 9), ALIKE, begin(8, 9), ALIKE, begin(5, 9), ALIKE),
                         [[0], [1], [0], [1], [0], [0]])


class AgainstTheWords(unittest.TestCase):
    def test_every_base(self):
        numbers = list(range(1, 300)) + list(range(997, 1000000, 39979)) + [999999, 1000000]
        for base in range(2, 17):
            for number in numbers:
                shown = model.numeral(number, base)
                round_ = model.numeral(model.turned(number, base), base)
                self.assertEqual(
                    asked(begin(base, number), SHOWS, TURNED, ALIKE),
                    [[0], [len(shown)] + shown, [len(round_)] + round_, [int(shown == round_)]],
                    (base, number),
                )


if __name__ == "__main__":
    unittest.main()
