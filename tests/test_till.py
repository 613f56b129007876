import unittest

import model
from asking import BACK, GREATEST_TOLD, SHOWS, asked, begin, go, till


class Till(unittest.TestCase):
    def test_0_where_it_reads_alike_now(self):
        self.assertEqual(asked(begin(10, 121), till(0), till(1), till(200)), [[0], [0, 3], [0, 3], [0, 3]])
        self.assertEqual(asked(begin(2, 9), till(0)), [[0], [0, 4]])
        self.assertEqual(asked(begin(10, 7), till(0)), [[0], [0, 1]])

    def test_none_allowed_where_it_does_not_now(self):
        self.assertEqual(asked(begin(10, 56), till(0)), [[0], [-6]])
        self.assertEqual(asked(begin(10, 10), till(0)), [[0], [-6]])

    def test_after_a_step(self):
        self.assertEqual(asked(begin(10, 56), till(1), till(200)), [[0], [1, 3], [1, 3]])
        self.assertEqual(asked(begin(10, 10), till(1)), [[0], [1, 2]])

    def test_89_takes_24(self):
        self.assertEqual(asked(till(23), till(24), till(25), till(200)), [[-6], [24, 13], [24, 13], [24, 13]])

    def test_counts_from_the_number_as_it_is_now(self):
        self.assertEqual(asked(go(20), till(3), till(4), go(4), till(0))[1:], [[-6], [4, 13], [13], [0, 13]])

    def test_196_does_not(self):
        self.assertEqual(asked(begin(10, 196), till(200)), [[0], [-6]])

    def test_22_in_base_2_does_not(self):
        self.assertEqual(asked(begin(2, 22), till(200)), [[0], [-6]])

    def test_above_200(self):
        for most in (201, GREATEST_TOLD):
            with self.subTest(most=most):
                self.assertEqual(asked(till(most), SHOWS), [[-1], [2, 8, 9]])

    def test_above_200_even_where_it_reads_alike_now(self):
        self.assertEqual(asked(begin(10, 121), till(201)), [[0], [-1]])

    def test_minus_1_stands_ahead_of_minus_6(self):
        self.assertEqual(asked(begin(10, 196), till(201)), [[0], [-1]])

    def test_nothing_changes(self):
        self.assertEqual(asked(till(24), SHOWS, BACK, till(23), SHOWS, till(201), SHOWS, BACK),
                         [[24, 13], [2, 8, 9], [-9], [-6], [2, 8, 9], [-1], [2, 8, 9], [-9]])
        self.assertEqual(asked(go(2), till(200), SHOWS, BACK, SHOWS)[1:],
                         [[22, 13], [3, 9, 6, 8], [3], [3, 1, 8, 7]])

    def test_its_steps_are_none_of_the_400(self):
        fourfold = [go(100)] * 4
        lengths = [len(model.numeral(number, 10)) for number in model.train(196, 10, 400)]
        self.assertEqual(asked(begin(10, 196), *fourfold, till(200), BACK, till(200), go(1), go(1))[5:],
                         [[-6], [lengths[399]], [-6], [lengths[400]], [-5]])

    def test_every_base(self):
        for base in range(2, 17):
            for number in list(range(1, 130)) + [187, 196, 879, 1997, 10911, 999999, 1000000]:
                expected = model.till(number, base, 60)
                self.assertEqual(asked(begin(base, number), till(60), SHOWS)[1:],
                                 [expected, asked(begin(base, number), SHOWS)[1]], (base, number))

    def test_just_as_many_as_are_needed(self):
        for base in range(2, 17):
            for number in range(1, 60):
                steps = model.till(number, base, 100)[0]
                if steps > 0:
                    self.assertEqual(asked(begin(base, number), till(steps - 1), till(steps))[1:],
                                     [[-6], model.till(number, base, 100)], (base, number))


if __name__ == "__main__":
    unittest.main()
