"""The form of what is handed in and given back, and what answers leaves alone."""

import contextlib
import io
import subprocess
import sys
import unittest

from asking import (ALIKE, BACK, CARRIES, COMES_FROM, FORM, SHOWS, STEPS, TURNED, begin, go, handed_in, make, meet,
                    till)
from turnedsum.trains import answers

A_BIT_OF_ALL = handed_in(
    SHOWS, TURNED, ALIKE, go(2), BACK, BACK, BACK, begin(1, 5), begin(2, 22), SHOWS, go(101), go(3),
    till(201), till(5), TURNED, begin(10, 121), ALIKE, till(0), CARRIES, COMES_FROM, meet(29, 1), meet(0, 1), make(2),
    FORM, go(1), STEPS, make(61), meet(22, 5), meet(3, 0), begin(10, 100001), COMES_FROM,
)


class Untouchable(list):
    def refuse(self, *told, **named):
        raise AssertionError("what is handed in is changed")

    append = extend = insert = pop = remove = clear = sort = reverse = refuse
    __setitem__ = __delitem__ = __iadd__ = __imul__ = refuse


class WhatIsGivenBack(unittest.TestCase):
    def test_number_by_number(self):
        self.assertEqual(answers([0, 10, 56]), [1, 0])
        self.assertEqual(answers([1]), [3, 2, 8, 9])
        self.assertEqual(answers([2, 1]), [1, 3])
        self.assertEqual(answers([2, 1, 3]), [1, 3, 1, 2])
        self.assertEqual(answers([4]), [1, 0])
        self.assertEqual(answers([5]), [3, 2, 9, 8])
        self.assertEqual(answers([6, 24]), [2, 24, 13])
        self.assertEqual(answers([7]), [1, 2])
        self.assertEqual(answers([8]), [3, 0, 0, 0])
        self.assertEqual(answers([9, 187, 3]), [2, 1, 0])
        self.assertEqual(answers([10]), [2, 0, 0])
        self.assertEqual(answers([11, 3, 10]), [1, 10, 2, 1, 3])
        self.assertEqual(answers([12]), [1, 0])
        self.assertEqual(answers([2, 7, 12]), [1, 6, 1, 7])

    def test_a_refusal_is_one_number(self):
        self.assertEqual(answers([0, 17, 1]), [1, -1])
        self.assertEqual(answers([2, 101]), [1, -1])
        self.assertEqual(answers([3]), [1, -9])
        self.assertEqual(answers([6, 201]), [1, -1])
        self.assertEqual(answers([6, 23]), [1, -6])
        self.assertEqual(answers([0, 10, 100001, 8]), [1, 0, 1, -7])
        self.assertEqual(answers([9, 0, 5]), [1, -1])
        self.assertEqual(answers([9, 5, 101]), [1, -1])
        self.assertEqual(answers([9, 5, 0]), [1, -6])
        self.assertEqual(answers([11, 61]), [1, -1])
        self.assertEqual(answers([2, 100, 2, 100, 2, 100, 2, 100, 2, 1])[-2:], [1, -5])

    def test_all_the_calls_in_order(self):
        self.assertEqual(
            answers(A_BIT_OF_ALL),
            [3, 2, 8, 9, 3, 2, 9, 8, 1, 0, 1, 3, 1, 3, 1, 2, 1, -9, 1, -1, 1, 0, 6, 5, 1, 0, 1, 1, 0, 1, -1, 1, 7,
             1, -1, 1, -6, 8, 7, 1, 0, 0, 1, 0, 1, 1, 1, 0, 1, 1, 2, 0, 3, 1, 0, 3, 9, 29, 110, 2, 0, 1, 1, -1, 1, 8,
             2, 1, 2, 1, 8, 1, 1, 1, -1, 2, 0, 5, 1, -6, 1, 0, 1, -7],
        )

    def test_whole_numbers_in_a_plain_list(self):
        answered = answers(A_BIT_OF_ALL)
        self.assertIs(type(answered), list)
        self.assertEqual({type(number) for number in answered}, {int})

    def test_forty_calls(self):
        self.assertEqual(answers([4] * 40), [1, 0] * 40)
        self.assertEqual(answers([0, 10, 11] * 40), [1, 0] * 40)


class WhatIsLeftAlone(unittest.TestCase):
    def test_what_is_handed_in_is_the_same_afterwards(self):
        calls = list(A_BIT_OF_ALL)
        answers(calls)
        self.assertEqual(calls, A_BIT_OF_ALL)

    def test_what_is_handed_in_is_not_changed_for_a_while_either(self):
        self.assertEqual(answers(Untouchable(A_BIT_OF_ALL)), answers(A_BIT_OF_ALL))

    def test_twice_the_same(self):
        first = answers(A_BIT_OF_ALL)
        kept = list(first)
        self.assertEqual(answers(A_BIT_OF_ALL), kept)
        first.clear()
        self.assertEqual(answers(A_BIT_OF_ALL), kept)

    def test_nothing_is_kept_for_the_next_list(self):
        for ahead in ([0, 2, 22, 2, 100], [11, 60, 2, 100], [9, 187, 100, 8, 8]):
            answers(ahead)
            self.assertEqual(answers([1, 3, 10, 12]), [3, 2, 8, 9, 1, -9, 2, 0, 0, 1, 0])
        shown = answers([1])
        shown[2] = 7
        self.assertEqual(answers([1]), [3, 2, 8, 9])

    def test_nothing_is_printed(self):
        out = io.StringIO()
        err = io.StringIO()
        with contextlib.redirect_stdout(out), contextlib.redirect_stderr(err):
            answers(A_BIT_OF_ALL)
        self.assertEqual((out.getvalue(), err.getvalue()), ("", ""))

    def test_nothing_is_imported_or_read(self):
        # A run of its own: here the tests have imported much already.
        program = (
            "import sys\n"
            "before = set(sys.modules)\n"
            "from turnedsum.trains import answers\n"
            "seen = []\n"
            "sys.addaudithook(lambda event, told: seen.append(event))\n"
            f"answers({A_BIT_OF_ALL})\n"
            "kept = list(seen)\n"
            "print(sorted(set(sys.modules) - before), kept)\n"
        )
        ran = subprocess.run([sys.executable, "-c", program], capture_output=True, text=True, check=True)
        self.assertEqual(ran.stdout, "['turnedsum', 'turnedsum.trains'] []\n")


if __name__ == "__main__":
    unittest.main()
