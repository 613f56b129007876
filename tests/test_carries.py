import unittest

import model
from asking import BACK, CARRIES, SHOWS, STEPS, asked, begin, go, make


def carries_of(base, number):
    return asked(begin(base, number), CARRIES)[1]


class Carries(unittest.TestCase):
    def test_none(self):
        for base, number in ((10, 12), (10, 10), (10, 1000000), (10, 44444), (2, 2), (2, 0b10010), (2, 0b110000),
                             (16, 0x77), (16, 0x69)):
            with self.subTest(base=base, number=number):
                self.assertEqual(carries_of(base, number), [0])

    def test_some(self):
        # 195 and 591: the middle place alone.
        self.assertEqual(carries_of(10, 195), [1])
        # 1999 and 9991: 10, 9 + 9 + 1, 9 + 9 + 1, 1 + 9 + 1; 1273 and 3721: 3 + 1, 7 + 2, 2 + 7, 1 + 3.
        self.assertEqual(carries_of(10, 1999), [4])
        self.assertEqual(carries_of(10, 1273), [0])
        self.assertEqual(carries_of(10, 1283), [2])
        # 10110 and 01101: 0 + 1, 1 + 0, 1 + 1, 0 + 1 + 1, 1 + 0 + 1.
        self.assertEqual(carries_of(2, 0b10110), [3])
        # 1D4 and 4D1: 5, 1A, 6.
        self.assertEqual(carries_of(16, 0x1D4), [1])

    def test_all(self):
        for base, number, places in ((10, 89, 2), (10, 99, 2), (10, 999999, 6), (2, 0b11, 2), (2, 0b1111111, 7),
                                     (16, 0xFF, 2), (16, 0x8888, 4), (10, 595, 3)):
            with self.subTest(base=base, number=number):
                self.assertEqual(carries_of(base, number), [places])

    def test_the_topmost_place_counts_too(self):
        # 908 and 809: 17, 0 + 0 + 1, 17: the lowest and the topmost.
        self.assertEqual(carries_of(10, 908), [2])
        self.assertEqual(carries_of(2, 0b1001), [2])
        self.assertEqual(carries_of(16, 0x80008), [2])

    def test_what_is_carried_is_added_above(self):
        # 495 and 594: 9, 18, 4 + 5 + 1.
        self.assertEqual(carries_of(10, 495), [2])
        # 5905 and 5095: 10, 0 + 9 + 1, 9 + 0 + 1, 5 + 5 + 1.
        self.assertEqual(carries_of(10, 5905), [4])
        self.assertEqual(carries_of(16, 0x7F8), [2])

    def test_where_the_turned_one_has_no_digit(self):
        # 990 and 99: 0 + 9, 9 + 9, 9 + 1.
        self.assertEqual(carries_of(10, 990), [2])
        self.assertEqual(carries_of(2, 0b110), [2])
        self.assertEqual(carries_of(16, 0xFF0), [2])

    def test_one_digit(self):
        for base, least in ((2, 1), (3, 2), (10, 5), (16, 8)):
            for digit in range(1, base):
                with self.subTest(base=base, digit=digit):
                    self.assertEqual(carries_of(base, digit), [1 if digit >= least else 0])

    def test_before_any_begin(self):
        self.assertEqual(asked(CARRIES), [[2]])

    def test_after_go_and_after_back(self):
        # 89, 187, 968, 1837: 8 + 9 and 9 + 8; 7 + 1, 16, 1 + 7 + 1; 17, 13, 18; 7 + 1, 3 + 8, 8 + 3 + 1, 1 + 7 + 1.
        self.assertEqual(asked(CARRIES, go(1), CARRIES, go(1), CARRIES, go(1), CARRIES, BACK, CARRIES, BACK, CARRIES),
                         [[2], [3], [1], [3], [3], [4], [2], [3], [3], [3], [1]])

    def test_nothing_changes(self):
        self.assertEqual(asked(go(2), CARRIES, CARRIES, SHOWS, STEPS, BACK, SHOWS, CARRIES, BACK, BACK),
                         [[3], [3], [3], [3, 9, 6, 8], [2], [3], [3, 1, 8, 7], [1], [2], [-9]])

    def test_of_a_form_that_is_made(self):
        for ones in (1, 2, 3, 60):
            self.assertEqual(asked(make(ones), CARRIES)[1], [model.carries(model.form_number(ones), 2)])

    def test_every_base(self):
        for base in range(2, 17):
            for number in list(range(1, 300)) + list(range(997, 1000000, 39979)) + [999999, 1000000]:
                self.assertEqual(carries_of(base, number), [model.carries(number, base)], (base, number))

    def test_of_long_numerals(self):
        for base in range(2, 17):
            numbers = model.train(999999, base, 400)
            self.assertEqual(asked(begin(base, 999999), *[go(100), CARRIES] * 4)[2::2],
                             [[model.carries(numbers[steps], base)] for steps in (100, 200, 300, 400)], base)


if __name__ == "__main__":
    unittest.main()
