import unittest

import model
from asking import ALIKE, BACK, GREATEST_TOLD, SHOWS, TURNED, asked, begin, go, last

FOUR_HUNDRED = [go(100)] * 4


def shown_after(base, number, steps):
    digits = model.numeral(model.train(number, base, steps)[-1], base)
    return [len(digits)] + digits


class Go(unittest.TestCase):
    def test_a_step_adds_the_number_turned_round(self):
        self.assertEqual(asked(begin(10, 56), go(1), SHOWS), [[0], [3], [3, 1, 2, 1]])
        self.assertEqual(asked(begin(10, 12), go(1), SHOWS), [[0], [2], [2, 3, 3]])
        self.assertEqual(asked(begin(2, 22), go(1), SHOWS), [[0], [6], [6, 1, 0, 0, 0, 1, 1]])

    def test_a_step_from_noughts_behind(self):
        self.assertEqual(asked(begin(10, 100), go(1), SHOWS), [[0], [3], [3, 1, 0, 1]])
        self.assertEqual(asked(begin(10, 1000000), go(1), SHOWS), [[0], [7], [7, 1, 0, 0, 0, 0, 0, 1]])

    def test_a_step_from_one_digit(self):
        self.assertEqual(asked(begin(10, 5), go(1), SHOWS), [[0], [2], [2, 1, 0]])
        self.assertEqual(asked(begin(2, 1), go(1), SHOWS), [[0], [2], [2, 1, 0]])
        self.assertEqual(asked(begin(16, 15), go(1), SHOWS), [[0], [2], [2, 1, 14]])

    def test_89_reads_alike_behind_24_steps(self):
        self.assertEqual(asked(go(23), ALIKE, go(1), ALIKE, SHOWS)[1:],
                         [[0], [13], [1], [13, 8, 8, 1, 3, 2, 0, 0, 0, 2, 3, 1, 8, 8]])
        self.assertEqual(asked(go(24), ALIKE), [[13], [1]])

    def test_none_one_and_a_hundred(self):
        self.assertEqual(asked(go(0), SHOWS, BACK), [[2], [2, 8, 9], [-9]])
        self.assertEqual(asked(go(1), SHOWS), [[3], shown_after(10, 89, 1)])
        self.assertEqual(asked(go(100), SHOWS), [shown_after(10, 89, 100)[:1], shown_after(10, 89, 100)])

    def test_steps_one_after_another_in_every_base(self):
        for base in range(2, 17):
            for number in (1, base - 1, base, 22, 89, 196, 65535, 999999, 1000000):
                calls = [begin(base, number)]
                expected = [[0]]
                for steps in (0, 1, 2, 7, 30):
                    calls.extend([go(steps), SHOWS])
                for steps in (0, 1, 3, 10, 40):
                    shown = shown_after(base, number, steps)
                    expected.extend([shown[:1], shown])
                self.assertEqual(asked(*calls), expected, (base, number))


class GoRefused(unittest.TestCase):
    def test_above_a_hundred(self):
        for steps in (101, 400, GREATEST_TOLD):
            with self.subTest(steps=steps):
                self.assertEqual(asked(go(steps), SHOWS, BACK), [[-1], [2, 8, 9], [-9]])

    def test_just_400_and_a_step_more(self):
        for base, number in ((10, 89), (2, 22), (16, 1000000)):
            shown = shown_after(base, number, 400)
            self.assertEqual(
                asked(begin(base, number), *FOUR_HUNDRED, SHOWS, go(1), SHOWS, go(0), BACK)[4:],
                [shown[:1], shown, [-5], shown, shown[:1], shown_after(base, number, 399)[:1]],
            )

    def test_a_refused_one_takes_no_step_at_all(self):
        shown = shown_after(10, 89, 350)
        self.assertEqual(
            asked(go(100), go(100), go(100), go(50), go(51), SHOWS, go(100), SHOWS, go(50), SHOWS)[4:],
            [[-5], shown, [-5], shown, shown_after(10, 89, 400)[:1], shown_after(10, 89, 400)],
        )

    def test_minus_1_stands_ahead_of_minus_5(self):
        self.assertEqual(asked(*FOUR_HUNDRED, go(101), go(100), go(GREATEST_TOLD))[4:], [[-1], [-5], [-1]])

    def test_a_step_that_is_undone_does_not_count(self):
        shown = shown_after(10, 89, 400)
        self.assertEqual(asked(*FOUR_HUNDRED, BACK, BACK, go(3), go(2), SHOWS, go(1))[6:],
                         [[-5], shown[:1], shown, [-5]])


class Back(unittest.TestCase):
    def test_undoes_one_step_not_the_call(self):
        self.assertEqual(
            asked(go(3), SHOWS, BACK, SHOWS, BACK, SHOWS, BACK, SHOWS, BACK, SHOWS),
            [[4], [4, 1, 8, 3, 7], [3], [3, 9, 6, 8], [3], [3, 1, 8, 7], [2], [2, 8, 9], [-9], [2, 8, 9]],
        )

    def test_right_behind_a_begin(self):
        self.assertEqual(asked(begin(10, 56), BACK, SHOWS), [[0], [-9], [2, 5, 6]])
        self.assertEqual(asked(go(3), begin(10, 56), BACK, SHOWS), [[4], [0], [-9], [2, 5, 6]])

    def test_noughts_that_were_lost_come_back(self):
        # 100 turned round is 1; undone, it is 100 again.
        self.assertEqual(asked(begin(10, 100), go(1), BACK, SHOWS, TURNED), [[0], [3], [3], [3, 1, 0, 0], [1, 1]])

    def test_two_ways_to_one_number_are_told_apart(self):
        # 59 and 68 both come to 154.
        self.assertEqual(asked(begin(10, 59), go(1), SHOWS, BACK, SHOWS)[2:], [[3, 1, 5, 4], [2], [2, 5, 9]])
        self.assertEqual(asked(begin(10, 68), go(1), SHOWS, BACK, SHOWS)[2:], [[3, 1, 5, 4], [2], [2, 6, 8]])

    def test_goes_on_from_there(self):
        self.assertEqual(asked(go(5), BACK, BACK, go(4), SHOWS)[3:],
                         [shown_after(10, 89, 7)[:1], shown_after(10, 89, 7)])

    def test_a_refused_go_is_no_step(self):
        self.assertEqual(asked(go(1), go(101), BACK, SHOWS, BACK), [[3], [-1], [2], [2, 8, 9], [-9]])

    def test_go_of_none_is_no_step(self):
        self.assertEqual(asked(go(1), go(0), BACK, BACK), [[3], [3], [2], [-9]])

    def test_all_the_way_in_every_base(self):
        for base in range(2, 17):
            expected = [shown_after(base, 777, steps)[:1] for steps in range(29, -1, -1)]
            self.assertEqual(asked(begin(base, 777), go(30), *[BACK] * 30, BACK, SHOWS)[2:],
                             expected + [[-9], shown_after(base, 777, 0)], base)

    def test_from_400_steps(self):
        self.assertEqual(last(*FOUR_HUNDRED, *[BACK] * 35, SHOWS), shown_after(10, 89, 365))


if __name__ == "__main__":
    unittest.main()
