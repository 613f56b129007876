import unittest

from asking import (ALIKE, BACK, CARRIES, COMES_FROM, FORM, GREATEST_TOLD, SHOWS, STEPS, TURNED, asked, begin, go,
                    last, make, meet, till)


class Steps(unittest.TestCase):
    def test_none_at_first(self):
        self.assertEqual(asked(STEPS), [[0]])
        self.assertEqual(asked(STEPS, STEPS), [[0], [0]])

    def test_after_go(self):
        self.assertEqual(asked(go(0), STEPS, go(1), STEPS, go(5), STEPS, go(100), STEPS)[1::2],
                         [[0], [1], [6], [106]])

    def test_after_back(self):
        self.assertEqual(asked(go(3), BACK, STEPS, BACK, STEPS, go(4), STEPS, BACK, STEPS)[2::2],
                         [[2], [1], [5], [4]])
        self.assertEqual(asked(go(1), BACK, STEPS)[2], [0])

    def test_after_begin(self):
        self.assertEqual(asked(go(3), begin(10, 56), STEPS, go(2), STEPS, begin(10, 56), STEPS)[2::2],
                         [[0], [2], [0]])

    def test_after_make(self):
        self.assertEqual(asked(go(3), make(2), STEPS, go(2), STEPS, make(2), STEPS, begin(2, 1), STEPS)[2::2],
                         [[0], [2], [0], [0]])

    def test_refused_ones_leave_it_as_it_was(self):
        refused = (go(101), go(GREATEST_TOLD), begin(1, 5), begin(17, 5), begin(10, 0), begin(10, 1000001), make(0),
                   make(61), make(GREATEST_TOLD), meet(0, 5), meet(5, 101), till(201), till(0), meet(5, 0))
        for call in refused:
            with self.subTest(call=call):
                self.assertEqual(asked(go(7), call, STEPS, BACK, STEPS)[2::2], [[7], [6]])
                self.assertLess(asked(go(7), call)[1][0], 0)
        self.assertEqual(asked(BACK, STEPS, go(1), BACK, BACK, STEPS), [[-9], [0], [3], [2], [-9], [0]])

    def test_calls_that_only_ask_leave_it_as_it_was(self):
        for call in (SHOWS, ALIKE, TURNED, till(100), CARRIES, COMES_FROM, meet(98, 100), FORM, STEPS):
            with self.subTest(call=call):
                self.assertEqual(asked(go(3), call, STEPS)[2], [3])

    def test_400_and_no_more(self):
        self.assertEqual(asked(*[go(100)] * 4, STEPS, go(1), STEPS, go(0), STEPS, go(100), STEPS)[4::2],
                         [[400], [400], [400], [400]])
        self.assertEqual(asked(*[go(100)] * 4, go(1))[4], [-5])
        self.assertEqual(asked(*[go(100)] * 3, go(99), go(2), STEPS, go(1), STEPS, go(1), STEPS)[4:7],
                         [[-5], [399], last(*[go(100)] * 4)])

    def test_counted_anew_since_a_begin_or_a_make(self):
        for anew in (begin(2, 22), make(2), make(60)):
            with self.subTest(anew=anew):
                answered = asked(*[go(100)] * 4, go(1), anew, STEPS, *[go(100)] * 4, STEPS, go(1), STEPS, BACK, go(1),
                                 STEPS)
                self.assertEqual(answered[4], [-5])
                self.assertEqual(answered[6], [0])
                self.assertEqual(answered[11:14], [[400], [-5], [400]])
                self.assertEqual(answered[16], [400])

    def test_a_refused_begin_or_make_begins_no_new_count(self):
        for refused in (begin(1, 22), make(61), make(0)):
            with self.subTest(refused=refused):
                self.assertEqual(asked(*[go(100)] * 4, refused, STEPS, go(1))[4:], [[-1], [400], [-5]])


if __name__ == "__main__":
    unittest.main()
