"""from, which the interface calls comes_from."""

import unittest

import model
from asking import BACK, COMES_FROM, SHOWS, STEPS, asked, begin, go, make


def before(base, number):
    return asked(begin(base, number), COMES_FROM)[1]


class ComesFrom(unittest.TestCase):
    def test_none(self):
        for base, number in ((10, 1), (10, 3), (10, 15), (10, 100), (10, 99999), (2, 1), (2, 4), (16, 1), (16, 29)):
            with self.subTest(base=base, number=number):
                self.assertEqual(before(base, number), [0, 0, 0])

    def test_one(self):
        self.assertEqual(before(10, 2), [1, 1, 1])
        self.assertEqual(before(10, 18), [1, 9, 9])
        self.assertEqual(before(10, 198), [1, 99, 99])
        self.assertEqual(before(2, 2), [1, 1, 1])
        self.assertEqual(before(16, 30), [1, 15, 15])

    def test_several(self):
        # 59, 68, 77, 86, 95.
        self.assertEqual(before(10, 154), [5, 59, 95])
        # 19, 28 and so on to 91.
        self.assertEqual(before(10, 110), [9, 19, 91])
        # 20 and 11; 20 turned round is 2.
        self.assertEqual(before(10, 22), [2, 11, 20])

    def test_of_different_lengths(self):
        # 29, 38 and so on to 92; and 110 and 11.
        self.assertEqual(before(10, 121), [9, 29, 110])
        # 209, 308 and so on to 902 (eight); 1010 and 101, 1100 and 11.
        self.assertEqual(before(10, 1111), [10, 209, 1100])

    def test_numbers_that_lose_their_noughts(self):
        self.assertEqual(before(10, 11), [1, 10, 10])
        self.assertEqual(before(2, 3), [1, 2, 2])
        self.assertEqual(before(16, 17), [1, 16, 16])
        self.assertEqual(before(10, 10001), [1, 10000, 10000])
        self.assertEqual(before(2, 65537), [1, 65536, 65536])

    def test_itself_is_none_of_them(self):
        for base in range(2, 17):
            for number in range(1, 40):
                self.assertLess(before(base, number)[2], number)

    def test_before_any_begin(self):
        self.assertEqual(asked(COMES_FROM), [[0, 0, 0]])

    def test_after_go_and_after_back(self):
        self.assertEqual(asked(begin(10, 59), COMES_FROM, go(1), COMES_FROM, BACK, COMES_FROM)[1:],
                         [[0, 0, 0], [3], [5, 59, 95], [2], [0, 0, 0]])
        for base in range(2, 17):
            for number in (1, 7, 10, 56, 100, 777, 4090):
                reached = model.train(number, base, 1)[1]
                answer = asked(begin(base, number), go(1), COMES_FROM)[2]
                self.assertEqual(answer, model.comes_from(reached, base))
                self.assertTrue(answer[0] >= 1 and answer[1] <= number <= answer[2])

    def test_of_a_form_that_is_made(self):
        for ones in range(1, 7):
            self.assertEqual(asked(make(ones), COMES_FROM)[1], model.comes_from(model.form_number(ones), 2))

    def test_nothing_changes(self):
        # 187, 286 and so on to 781 (seven); 880 and 88.
        self.assertEqual(asked(go(2), COMES_FROM, COMES_FROM, SHOWS, STEPS, BACK, SHOWS, BACK, BACK)[1:],
                         [[8, 187, 880], [8, 187, 880], [3, 9, 6, 8], [2], [3], [3, 1, 8, 7], [2], [-9]])


class Refused(unittest.TestCase):
    def test_just_100000_is_answered(self):
        for base in range(2, 17):
            answer = before(base, 100000)
            self.assertEqual(answer, model.comes_from(100000, base), base)
            self.assertEqual(len(answer), 3)

    def test_100000_in_bases_where_something_comes_to_it(self):
        for base in (7, 9):
            self.assertGreater(before(base, 100000)[0], 0)

    def test_above_100000(self):
        for base in range(2, 17):
            for number in (100001, 100002, 131072, 999999, 1000000):
                with self.subTest(base=base, number=number):
                    self.assertEqual(asked(begin(base, number), COMES_FROM, STEPS, SHOWS)[1:],
                                     [[-7], [0], model.counted(number, base)])

    def test_after_a_go_that_brings_it_above(self):
        # 99999 in base 10 comes to 199998; 89 comes to 91718 behind 6 steps, to 173437 behind 7.
        self.assertEqual(asked(begin(10, 99999), COMES_FROM, go(1), COMES_FROM, BACK, COMES_FROM)[1:],
                         [[0, 0, 0], [6], [-7], [5], [0, 0, 0]])
        there = model.comes_from(91718, 10)
        self.assertEqual(asked(go(6), COMES_FROM, go(1), COMES_FROM, STEPS, BACK, COMES_FROM)[1:],
                         [there, [6], [-7], [7], [5], there])

    def test_of_great_ones(self):
        self.assertEqual(asked(make(60), COMES_FROM, go(100), COMES_FROM)[1::2], [[-7], [-7]])
        self.assertEqual(asked(make(6), COMES_FROM, make(7), COMES_FROM)[1::2],
                         [model.comes_from(model.form_number(6), 2), [-7]])
        self.assertEqual(asked(*[go(100)] * 4, COMES_FROM)[4], [-7])


class AgainstAPlainSearch(unittest.TestCase):
    def test_small_ones_in_every_base(self):
        for base in range(2, 17):
            for number in range(1, 700):
                self.assertEqual(before(base, number), model.comes_from(number, base), (base, number))

    def test_some_up_to_100000_in_every_base(self):
        for base in range(2, 17):
            for number in list(range(700, 100000, 1993)) + list(range(99990, 100001)):
                self.assertEqual(before(base, number), model.comes_from(number, base), (base, number))

    def test_those_that_many_come_to(self):
        for base in range(2, 17):
            found = model.steps_backwards(base)
            for number in sorted(found, key=lambda reached: -len(found[reached]))[:40]:
                self.assertEqual(before(base, number), model.comes_from(number, base), (base, number))

    def test_the_greatest_that_some_come_to(self):
        for base in range(2, 17):
            for number in sorted(model.steps_backwards(base))[-60:]:
                self.assertEqual(before(base, number), model.comes_from(number, base), (base, number))


if __name__ == "__main__":
    unittest.main()
