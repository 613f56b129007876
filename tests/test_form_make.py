import unittest

import model
from asking import ALIKE, BACK, FORM, GREATEST_TOLD, SHOWS, STEPS, TURNED, asked, begin, go, last, make, meet, till


def form_digits(ones):
    return [1, 0] + [1] * ones + [0, 1] + [0] * ones


def value(digits, base):
    number = 0
    for digit in digits:
        number = number * base + digit
    return number


class Form(unittest.TestCase):
    def test_of_forms_that_are_made(self):
        for ones in (1, 2, 3, 59, 60):
            self.assertEqual(asked(make(ones), FORM)[1], [1, ones])

    def test_of_forms_that_are_begun(self):
        # 42, 180, 744 and so on; the form 8 is the last one up to 1000000.
        self.assertEqual(asked(begin(2, 42), FORM, begin(2, 180), FORM, begin(2, 744), FORM)[1::2],
                         [[1, 1], [1, 2], [1, 3]])
        for ones in range(1, 9):
            self.assertEqual(asked(begin(2, value(form_digits(ones), 2)), FORM)[1], [1, ones])

    def test_a_form_without_ones_is_none(self):
        self.assertEqual(asked(begin(2, 0b1001), FORM), [[0], [0, 0]])

    def test_before_any_begin(self):
        self.assertEqual(asked(FORM), [[0, 0]])

    def test_the_same_digits_in_another_base(self):
        for base in range(3, 17):
            for ones in range(1, 9):
                number = value(form_digits(ones), base)
                if number <= 1000000:
                    self.assertEqual(asked(begin(base, number), SHOWS, FORM)[1:],
                                     [[2 * ones + 4] + form_digits(ones), [0, 0]])

    def test_the_same_number_in_another_base(self):
        for base in range(3, 17):
            for number in (42, 180, 744):
                self.assertEqual(asked(begin(base, number), FORM)[1], [0, 0])

    def test_one_digit_is_another(self):
        for ones in range(1, 9):
            for place in range(2 * ones + 4):
                digits = form_digits(ones)
                digits[place] = 1 - digits[place]
                with self.subTest(ones=ones, place=place):
                    self.assertEqual(asked(begin(2, value(digits, 2)), FORM)[1], [0, 0])

    def test_a_digit_more_or_less(self):
        for ones in range(1, 8):
            digits = form_digits(ones)
            # A nought ahead of all would leave the number as it is.
            wrong = [[1] + digits]
            for place in range(len(digits)):
                wrong.append(digits[:place] + digits[place + 1:])
                for digit in (0, 1):
                    wrong.append(digits[:place + 1] + [digit] + digits[place + 1:])
            for others in wrong:
                self.assertEqual(asked(begin(2, value(others, 2)), FORM)[1], [0, 0], others)

    def test_not_so_many_ones_as_noughts(self):
        for ones in range(1, 6):
            for noughts in range(1, 6):
                digits = [1, 0] + [1] * ones + [0, 1] + [0] * noughts
                self.assertEqual(asked(begin(2, value(digits, 2)), FORM)[1], [1, ones] if ones == noughts else [0, 0])

    def test_turned_round_is_none(self):
        for ones in range(1, 9):
            self.assertEqual(asked(begin(2, value(form_digits(ones)[::-1], 2)), FORM)[1], [0, 0])

    def test_every_number_up_to_some_thousand(self):
        found = [number for number in range(1, 4100) if asked(begin(2, number), FORM)[1] != [0, 0]]
        self.assertEqual(found, [42, 180, 744, 3024])

    def test_nothing_changes(self):
        self.assertEqual(asked(begin(2, 22), go(4), FORM, FORM, STEPS, SHOWS, BACK, FORM, SHOWS)[2:],
                         [[1, 2], [1, 2], [4], [8, 1, 0, 1, 1, 0, 1, 0, 0], [7], [0, 0], [7, 1, 1, 0, 1, 0, 0, 1]])


class FourSteps(unittest.TestCase):
    def test_the_next_form(self):
        for ones in range(2, 61):
            self.assertEqual(asked(make(ones), *[go(1), FORM] * 4)[2::2], [[0, 0]] * 3 + [[1, ones + 1]], ones)
            self.assertEqual(last(make(ones), go(4), SHOWS), [2 * ones + 6] + form_digits(ones + 1), ones)

    def test_from_60_on_and_on(self):
        self.assertEqual(asked(make(60), *[go(100), FORM] * 4)[2::2], [[1, 85], [1, 110], [1, 135], [1, 160]])
        self.assertEqual(asked(make(60), go(4), FORM, STEPS)[2:], [[1, 61], [4]])

    def test_from_22(self):
        # 22 is 10110; behind four steps it is the form 2.
        self.assertEqual(asked(begin(2, 22), FORM, go(4), FORM, go(4), FORM, go(100), FORM)[1::2],
                         [[0, 0], [1, 2], [1, 3], [1, 28]])

    def test_back_again(self):
        self.assertEqual(asked(make(5), go(4), FORM, BACK, FORM, BACK, FORM, BACK, FORM, BACK, FORM, BACK)[2::2],
                         [[1, 6], [0, 0], [0, 0], [0, 0], [1, 5]])
        self.assertEqual(asked(make(60), go(5), FORM, BACK, FORM)[2::2], [[0, 0], [1, 61]])

    def test_none_reads_alike(self):
        for ones in range(2, 61):
            self.assertEqual(asked(make(ones), till(200), go(100), till(200))[1::2], [[-6], [-6]])
        for ones in (2, 60):
            self.assertEqual(asked(make(ones), *[ALIKE, go(1)] * 8)[1::2], [[0]] * 8)

    def test_the_form_1_does(self):
        # 101010 and 010101: that is why n is 2 or more.
        self.assertEqual(asked(make(1), go(1), SHOWS, ALIKE, go(3), FORM)[2:],
                         [[6, 1, 1, 1, 1, 1, 1], [1], asked(begin(2, 42), go(4))[1], [0, 0]])


class Make(unittest.TestCase):
    def test_how_many_digits(self):
        self.assertEqual(asked(make(1), make(2), make(3), make(59), make(60)), [[6], [8], [10], [122], [124]])

    def test_the_digits(self):
        self.assertEqual(asked(make(1), SHOWS, make(2), SHOWS, TURNED)[1:],
                         [[6, 1, 0, 1, 0, 1, 0], [8], [8, 1, 0, 1, 1, 0, 1, 0, 0], [6, 1, 0, 1, 1, 0, 1]])
        for ones in range(1, 61):
            self.assertEqual(asked(make(ones), SHOWS)[1], [2 * ones + 4] + form_digits(ones))

    def test_the_base_is_2_from_then_on(self):
        for base in range(2, 17):
            # 101010 and 010101 are 111111, this twice is 1111110: 63 and 126 in base 2.
            self.assertEqual(asked(begin(base, 999), make(1), go(1), SHOWS, go(1), SHOWS)[2:],
                             [[6], [6, 1, 1, 1, 1, 1, 1], [7], [7, 1, 1, 1, 1, 1, 1, 0]])
        self.assertEqual(asked(make(2), meet(22, 4), begin(10, 22), SHOWS)[1:], [[0, 4], [0], [2, 2, 2]])

    def test_no_step_has_been_made(self):
        for ahead in ([], [go(0)], [go(7)], [go(100)] * 4, [begin(16, 5), go(3)], [make(3), go(3)], [go(3), BACK]):
            self.assertEqual(asked(*ahead, make(4), STEPS, BACK, SHOWS)[len(ahead):],
                             [[12], [0], [-9], [12] + form_digits(4)])

    def test_back_does_not_go_behind_it(self):
        self.assertEqual(asked(go(7), make(4), go(1), BACK, BACK, SHOWS)[3:], [[12], [-9], [12] + form_digits(4)])

    def test_several_one_behind_another(self):
        self.assertEqual(asked(make(60), make(1), FORM, make(9), FORM, begin(2, 5), FORM, make(2), FORM, go(1), FORM),
                         [[124], [6], [1, 1], [22], [1, 9], [0], [0, 0], [8], [1, 2], [8], [0, 0]])

    def test_what_is_made_is_made_anew(self):
        # Steps and the going back of one form leave the next of the same n as it is.
        self.assertEqual(asked(make(2), go(9), make(2), SHOWS, FORM)[2:], [[8], [8, 1, 0, 1, 1, 0, 1, 0, 0], [1, 2]])


class MakeRefused(unittest.TestCase):
    WRONG = (0, 61, 62, 100, 1000000, GREATEST_TOLD)

    def test_is_minus_1_and_89_is_still_there(self):
        for ones in self.WRONG:
            with self.subTest(ones=ones):
                self.assertEqual(asked(make(ones), SHOWS, STEPS, FORM, go(1), SHOWS),
                                 [[-1], [2, 8, 9], [0], [0, 0], [3], [3, 1, 8, 7]])

    def test_base_number_and_steps_are_as_before(self):
        for ones in self.WRONG:
            with self.subTest(ones=ones):
                self.assertEqual(
                    asked(begin(3, 5), go(1), make(ones), SHOWS, STEPS, BACK, SHOWS, STEPS, BACK),
                    [[0], [3], [-1], [3, 1, 1, 0], [1], [2], [2, 1, 2], [0], [-9]],
                )
                self.assertEqual(asked(make(2), go(4), make(ones), FORM, STEPS, BACK, STEPS)[2:],
                                 [[-1], [1, 3], [4], [9], [3]])


class AgainstTheWords(unittest.TestCase):
    def test_forms_along_some_trains(self):
        for number in (1, 22, 42, 70, 77, 180, 775, 1000000):
            numbers = model.train(number, 2, 35)
            self.assertEqual(asked(begin(2, number), *[go(2), FORM] * 17)[2::2],
                             [model.form(numbers[steps], 2) for steps in range(2, 36, 2)], number)


if __name__ == "__main__":
    unittest.main()
