import unittest

import model
from asking import BACK, GREATEST_TOLD, SHOWS, STEPS, asked, begin, go, make, meet


class Meet(unittest.TestCase):
    def test_the_number_itself(self):
        self.assertEqual(asked(meet(89, 0), meet(89, 1), meet(89, 100)), [[0, 0]] * 3)
        for base in range(2, 17):
            for number in (1, 10, 196, 999999, 1000000):
                self.assertEqual(asked(begin(base, number), meet(number, 0), meet(number, 100))[1:], [[0, 0]] * 2)

    def test_other_numbers_with_no_step_allowed(self):
        self.assertEqual(asked(meet(187, 0), meet(98, 0), meet(1, 0), meet(1000000, 0)), [[-6]] * 4)

    def test_the_other_stands_in_its_own_train(self):
        # 89, 187, 968, 1837.
        self.assertEqual(asked(meet(187, 1), meet(187, 100), meet(1837, 2), meet(1837, 3), meet(1837, 100)),
                         [[1, 0], [1, 0], [-6], [3, 0], [3, 0]])

    def test_it_stands_in_the_train_of_the_other(self):
        self.assertEqual(asked(begin(10, 1837), meet(89, 2), meet(89, 3), meet(89, 100), meet(968, 1))[1:],
                         [[-6], [0, 3], [0, 3], [0, 1]])
        self.assertEqual(asked(go(3), meet(89, 2), meet(89, 3), meet(187, 2))[1:], [[-6], [0, 3], [0, 2]])

    def test_both_come_to_a_third(self):
        # 59 and 68 both come to 154.
        self.assertEqual(asked(begin(10, 59), meet(68, 0), meet(68, 1), meet(68, 100))[1:], [[-6], [1, 1], [1, 1]])
        # 98 turned round is 89.
        self.assertEqual(asked(meet(98, 1)), [[1, 1]])

    def test_behind_different_counts(self):
        # 1, 2, 4, 8, 16, 77, 154, 605, 1111; 104, 505, 1010, 1111; 151, 302, 505, 1010, 1111.
        self.assertEqual(
            asked(begin(10, 1), meet(104, 7), meet(104, 8), meet(151, 7), meet(151, 8), meet(151, 100))[1:],
            [[-6], [8, 3], [-6], [8, 4], [8, 4]],
        )
        self.assertEqual(asked(begin(10, 104), meet(1, 7), meet(1, 8), meet(1, 100), meet(151, 3))[1:],
                         [[-6], [3, 8], [3, 8], [1, 2]])
        self.assertEqual(asked(begin(2, 1), meet(68, 9), meet(68, 10), begin(2, 68), meet(1, 9), meet(1, 10))[1:],
                         [[-6], [10, 3], [0], [-6], [3, 10]])
        self.assertEqual(asked(begin(16, 5), meet(260, 11), meet(260, 12))[1:], [[-6], [12, 8]])

    def test_none(self):
        self.assertEqual(asked(begin(10, 196), meet(89, 100), meet(1, 100))[1:], [[-6], [-6]])
        self.assertEqual(asked(begin(2, 22), meet(16, 100), meet(17, 100))[1:], [[-6], [-6]])

    def test_the_edges_of_the_other(self):
        self.assertEqual(asked(begin(10, 4), meet(1, 1), meet(1, 2), begin(10, 1), meet(4, 2))[1:],
                         [[-6], [0, 2], [0], [2, 0]])
        self.assertEqual(asked(begin(10, 1000001), begin(10, 1000000), go(1), meet(1000000, 0), meet(1000000, 1)),
                         [[-1], [0], [7], [-6], [0, 1]])

    def test_a_hundred_steps(self):
        # Far on in a train: the other must take all of the hundred.
        self.assertEqual(asked(begin(10, 196), go(100), meet(196, 99), meet(196, 100), go(1), meet(196, 100))[2:],
                         [[-6], [0, 100], model.counted(model.train(196, 10, 101)[-1], 10)[:1], [-6]])
        # 887 comes of 196 in a step.
        self.assertEqual(asked(begin(10, 196), go(100), meet(887, 98), meet(887, 99))[2:], [[-6], [0, 99]])

    def test_late(self):
        self.assertEqual(asked(begin(2, 1), meet(70, 92), meet(70, 93), meet(70, 100))[1:], [[-6], [93, 68], [93, 68]])
        self.assertEqual(asked(begin(2, 70), meet(1, 92), meet(1, 93), meet(1, 100))[1:], [[-6], [68, 93], [68, 93]])
        self.assertEqual(asked(begin(2, 22), meet(1, 20), meet(1, 21))[1:], [[-6], [20, 21]])

    def test_the_base_is_that_of_now(self):
        # 22 in base 2 comes to 35, in base 10 to 44, in base 16 (1 6) to 7 7, which is 119.
        calls = [meet(22, 1), meet(22, 1), meet(22, 1)]
        self.assertEqual(asked(begin(2, 35), calls[0], begin(10, 44), calls[1], begin(16, 119), calls[2])[1::2],
                         [[0, 1]] * 3)
        self.assertEqual(asked(begin(10, 35), calls[0], begin(16, 44), calls[1], begin(2, 119), calls[2])[1::2],
                         [[-6]] * 3)

    def test_its_own_train_begins_at_the_number_of_now(self):
        self.assertEqual(asked(go(3), meet(187, 0), BACK, meet(187, 1), BACK, meet(187, 0), BACK, meet(187, 1)),
                         [[4], [-6], [3], [0, 1], [3], [0, 0], [2], [1, 0]])

    def test_nothing_changes(self):
        self.assertEqual(
            asked(go(1), meet(98, 100), SHOWS, STEPS, meet(1, 3), SHOWS, STEPS, meet(0, 3), SHOWS, STEPS, BACK, BACK),
            [[3], [0, 1], [3, 1, 8, 7], [1], [-6], [3, 1, 8, 7], [1], [-1], [3, 1, 8, 7], [1], [2], [-9]],
        )

    def test_its_steps_are_none_of_the_400(self):
        lengths = [len(model.numeral(number, 10)) for number in model.train(196, 10, 400)]
        self.assertEqual(
            asked(begin(10, 196), *[go(100)] * 4, meet(196, 100), STEPS, BACK, meet(1, 100), go(1), go(1))[5:],
            [[-6], [400], [lengths[399]], [-6], [lengths[400]], [-5]],
        )

    def test_of_forms(self):
        # 22, 35, 84, 105, 180: this is the form 2; four steps on stands the form 3.
        self.assertEqual(asked(make(2), meet(22, 3), meet(22, 4), make(3), meet(22, 7), meet(22, 8))[1:],
                         [[-6], [0, 4], [10], [-6], [0, 8]])
        self.assertEqual(asked(make(2), meet(model.form_number(3), 3), meet(model.form_number(3), 4))[1:],
                         [[-6], [4, 0]])


class Refused(unittest.TestCase):
    def test_the_other_is_not_as_told(self):
        for other in (0, 1000001, GREATEST_TOLD):
            for most in (0, 1, 100):
                with self.subTest(other=other, most=most):
                    self.assertEqual(asked(meet(other, most), SHOWS, STEPS), [[-1], [2, 8, 9], [0]])

    def test_too_many_steps(self):
        for other in (1, 89, 196, 1000000):
            for most in (101, 200, GREATEST_TOLD):
                with self.subTest(other=other, most=most):
                    self.assertEqual(asked(meet(other, most), SHOWS, STEPS), [[-1], [2, 8, 9], [0]])

    def test_both_not_as_told(self):
        for other in (0, 1000001, GREATEST_TOLD):
            for most in (101, GREATEST_TOLD):
                with self.subTest(other=other, most=most):
                    self.assertEqual(asked(go(2), meet(other, most), SHOWS, STEPS)[1:], [[-1], [3, 9, 6, 8], [2]])

    def test_the_number_of_now_may_be_above_a_million(self):
        # 1000000 comes to 1000001, which is no x but may be come to.
        self.assertEqual(asked(begin(10, 1000000), go(1), meet(1000001, 0), meet(1000000, 1))[2:], [[-1], [0, 1]])
        self.assertEqual(asked(begin(10, 999999), go(2), meet(999999, 2))[2:], [[0, 2]])


class AgainstTheWords(unittest.TestCase):
    def test_every_base(self):
        for base in range(2, 17):
            for number in list(range(1, 40)) + [196, 879, 999999]:
                others = list(range(1, 9)) + [base, base * base, 104, 151, 260, 777, 1000000]
                for most in (0, 3, 12):
                    # At most eight of meet stand in a line.
                    for some in (others[:8], others[8:]):
                        self.assertEqual(
                            asked(begin(base, number), *[meet(other, most) for other in some])[1:],
                            [model.meet(number, other, base, most) for other in some], (base, number, most),
                        )

    def test_after_some_steps(self):
        for base in range(2, 17):
            for number in (1, 22, 89, 777):
                reached = model.train(number, base, 6)[-1]
                others = (number, number + 1, 1, 3, 104, 260, 999, 1000000)
                self.assertEqual(asked(begin(base, number), go(6), *[meet(other, 60) for other in others])[2:],
                                 [model.meet(reached, other, base, 60) for other in others], (base, number))


if __name__ == "__main__":
    unittest.main()
