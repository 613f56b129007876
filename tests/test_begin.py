import unittest

from asking import ALIKE, BACK, GREATEST_TOLD, SHOWS, TURNED, asked, begin, go, last, till


class BeforeAnyBegin(unittest.TestCase):
    def test_the_number_is_89_in_base_10(self):
        self.assertEqual(asked(SHOWS), [[2, 8, 9]])
        self.assertEqual(asked(TURNED), [[2, 9, 8]])
        self.assertEqual(asked(ALIKE), [[0]])
        self.assertEqual(asked(till(24)), [[24, 13]])

    def test_it_steps_in_base_10(self):
        self.assertEqual(asked(go(1), SHOWS), [[3], [3, 1, 8, 7]])

    def test_no_step_has_been_made(self):
        self.assertEqual(asked(BACK), [[-9]])
        self.assertGreater(last(go(100), go(100), go(100), go(100))[0], 0)
        self.assertEqual(last(go(100), go(100), go(100), go(100), go(1)), [-5])


class Begin(unittest.TestCase):
    def test_answers_0_and_sets_base_and_number(self):
        self.assertEqual(asked(begin(10, 196), SHOWS), [[0], [3, 1, 9, 6]])
        self.assertEqual(asked(begin(2, 22), SHOWS), [[0], [5, 1, 0, 1, 1, 0]])

    def test_several_one_behind_another(self):
        self.assertEqual(
            asked(begin(10, 56), SHOWS, begin(7, 56), SHOWS, begin(16, 255), begin(3, 5), SHOWS),
            [[0], [2, 5, 6], [0], [3, 1, 1, 0], [0], [0], [2, 1, 2]],
        )

    def test_the_new_base_holds_for_steps(self):
        self.assertEqual(asked(begin(16, 255), go(1), SHOWS), [[0], [3], [3, 1, 15, 14]])

    def test_forgets_the_steps_before_it(self):
        self.assertEqual(asked(go(5), begin(10, 56), BACK, SHOWS)[1:], [[0], [-9], [2, 5, 6]])
        fourfold = [go(100)] * 4
        self.assertEqual(last(*fourfold, begin(10, 89), *fourfold), last(*fourfold))
        self.assertEqual(last(*fourfold, begin(10, 89), *fourfold, go(1)), [-5])

    def test_edges_of_the_base(self):
        self.assertEqual(asked(begin(2, 5), SHOWS), [[0], [3, 1, 0, 1]])
        self.assertEqual(asked(begin(16, 31), SHOWS), [[0], [2, 1, 15]])
        for base in range(2, 17):
            self.assertEqual(asked(begin(base, base), SHOWS), [[0], [2, 1, 0]])

    def test_edges_of_the_number(self):
        self.assertEqual(asked(begin(10, 1), SHOWS), [[0], [1, 1]])
        self.assertEqual(asked(begin(10, 1000000), SHOWS), [[0], [7, 1, 0, 0, 0, 0, 0, 0]])
        self.assertEqual(asked(begin(16, 1000000), SHOWS), [[0], [5, 15, 4, 2, 4, 0]])


class BeginRefused(unittest.TestCase):
    WRONG = (
        (0, 5), (1, 5), (17, 5), (GREATEST_TOLD, 5),
        (10, 0), (10, 1000001), (10, GREATEST_TOLD), (2, 0), (16, 1000001),
        (1, 0), (17, 1000001), (0, 0), (GREATEST_TOLD, GREATEST_TOLD),
    )

    def test_is_minus_1_and_89_is_still_there(self):
        for base, number in self.WRONG:
            with self.subTest(base=base, number=number):
                self.assertEqual(
                    asked(begin(base, number), SHOWS, go(1), SHOWS),
                    [[-1], [2, 8, 9], [3], [3, 1, 8, 7]],
                )

    def test_base_number_and_steps_are_as_before(self):
        for base, number in self.WRONG:
            with self.subTest(base=base, number=number):
                self.assertEqual(
                    asked(begin(3, 5), go(1), begin(base, number), SHOWS, BACK, SHOWS, BACK),
                    [[0], [3], [-1], [3, 1, 1, 0], [2], [2, 1, 2], [-9]],
                )


if __name__ == "__main__":
    unittest.main()
