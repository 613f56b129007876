"""Whole lines of all thirteen calls, against the document's words said again in model.py."""

import unittest

import model
from asking import (ALIKE, BACK, CARRIES, COMES_FROM, FORM, GREATEST_TOLD, SHOWS, STEPS, TURNED, asked, begin, go,
                    handed_in, make, meet, split_up, till)
from turnedsum.trains import answers

PLAIN = (SHOWS, BACK, ALIKE, TURNED, CARRIES, COMES_FROM, FORM, STEPS)


class Choices:
    """Always the same numbers one behind another, without much of an order."""

    def __init__(self, first):
        self.state = first

    def below(self, bound):
        self.state = (self.state * 6364136223846793005 + 1442695040888963407) % 2 ** 64
        return (self.state >> 33) % bound

    def one_of(self, choices):
        return choices[self.below(len(choices))]


def steps_told(call):
    most = {2: 100, 6: 200, 9: 100}
    return call[-1] if call[0] in most and call[-1] <= most[call[0]] else 0


def allowed(calls):
    return (
        1 <= len(calls) <= 40 and len(handed_in(*calls)) <= 120 and sum(steps_told(call) for call in calls) <= 2000
        and sum(call == COMES_FROM for call in calls) <= 8 and sum(call[0] == 9 for call in calls) <= 8
    )


def any_number(choices):
    return choices.one_of((
        choices.below(12), choices.below(300), choices.below(4000), choices.below(120000), choices.below(1000002),
        1, 22, 42, 89, 180, 196, 744, 100000, 100001, 1000000, 1000001, 0, GREATEST_TOLD,
    ))


def any_call(choices):
    told = choices.below(16)
    if told < 2:
        return begin(choices.one_of((2, 2, 10, 16, 2 + choices.below(15), 2 + choices.below(15), choices.below(19))),
                     any_number(choices))
    if told < 5:
        return go(choices.one_of((0, 1, 1, 2, 3, 4, choices.below(103), 100, 100, 100, 101, GREATEST_TOLD)))
    if told == 5:
        return till(choices.one_of((0, 1, 5, 24, choices.below(203), 200, 201, GREATEST_TOLD)))
    if told == 6:
        return meet(any_number(choices), choices.one_of((0, 1, 5, choices.below(103), 100, 101, GREATEST_TOLD)))
    if told == 7:
        return make(choices.one_of((1, 2, choices.below(63), 60, 61, 0, GREATEST_TOLD)))
    return PLAIN[told - 8]


def any_line(choices):
    calls = [any_call(choices)]
    for _ in range(choices.below(60)):
        call = any_call(choices)
        if allowed(calls + [call]):
            calls.append(call)
    return calls


class Lines(unittest.TestCase):
    def same(self, calls):
        self.assertTrue(allowed(calls), calls)
        numbers = handed_in(*calls)
        kept = list(numbers)
        answered = answers(numbers)
        self.assertEqual(split_up(answered), model.line(calls), calls)
        self.assertEqual(numbers, kept)
        self.assertEqual(answers(numbers), answered)


class Mixed(Lines):
    def test_one_call_alone(self):
        for call in PLAIN + (begin(2, 22), go(3), till(24), meet(98, 3), make(5)):
            self.same([call])

    def test_each_call_behind_each_other(self):
        calls = PLAIN + (begin(2, 22), begin(1, 22), go(1), go(3), go(101), till(24), till(2), till(201), meet(98, 3),
                         meet(1, 2), meet(0, 2), make(5), make(61))
        for first in calls:
            for second in calls:
                self.same([go(2), first, second, SHOWS, STEPS, BACK, SHOWS, FORM])

    def test_many_lines(self):
        choices = Choices(2026)
        asked_for = {}
        for _ in range(400):
            calls = any_line(choices)
            self.same(calls)
            for call, answer in zip(calls, model.line(calls)):
                asked_for.setdefault(call[0], set()).add(min(answer[0], 0))
        # The lines are only worth something if every call is answered in them and refused in every way.
        self.assertEqual(asked_for, {
            0: {0, -1}, 1: {0}, 2: {0, -1, -5}, 3: {0, -9}, 4: {0}, 5: {0}, 6: {0, -1, -6}, 7: {0}, 8: {0, -7},
            9: {0, -1, -6}, 10: {0}, 11: {0, -1}, 12: {0},
        })

    def test_written_out(self):
        # 22 in base 2: 10110, 100011, 1010100, 1101001, 10110100; this is the form 2, and 1001011 comes to it too.
        self.assertEqual(
            asked(begin(2, 22), SHOWS, CARRIES, go(4), FORM, STEPS, COMES_FROM, meet(22, 4), TURNED, ALIKE, till(3),
                  BACK, FORM, STEPS, SHOWS, make(2), STEPS, BACK, SHOWS, meet(105, 1), begin(10, 121), COMES_FROM,
                  FORM, CARRIES, STEPS),
            [[0], [5, 1, 0, 1, 1, 0], [3], [8], [1, 2], [4], [2, 75, 105], [0, 4], [6, 1, 0, 1, 1, 0, 1], [0], [-6],
             [7], [0, 0], [3], [7, 1, 1, 0, 1, 0, 0, 1], [8], [0], [-9], [8, 1, 0, 1, 1, 0, 1, 0, 0], [0, 1], [0],
             [9, 29, 110], [0, 0], [0], [0]],
        )


class Longest(Lines):
    def test_forty_calls_of_all_kinds(self):
        calls = [begin(2, 22), SHOWS, go(4), BACK, ALIKE, TURNED, till(3), CARRIES, COMES_FROM, meet(22, 4), FORM,
                 make(3), STEPS] * 3 + [SHOWS]
        self.assertEqual(len(calls), 40)
        self.same(calls)

    def test_120_numbers(self):
        for call in (begin(10, 196), begin(2, 1000000), begin(16, 0)):
            calls = [call] * 40
            self.assertEqual(len(handed_in(*calls)), 120)
            self.same(calls)

    def test_eight_of_comes_from_and_eight_of_meet(self):
        for base, number in ((2, 98304), (3, 78732), (7, 98432), (10, 99899), (16, 69632)):
            calls = [begin(base, number)] + [COMES_FROM] * 8 + [meet(number, 100)] * 4 + [meet(1, 100)] * 4
            self.same(calls + [SHOWS, STEPS])

    def test_2000_steps_told(self):
        steep = [go(100)] * 4 + [SHOWS]
        for begun in (begin(2, 22), begin(16, 1000000), make(60)):
            with self.subTest(begun=begun):
                self.same(([begun] + steep) * 5)
                self.same([begun] + steep + [till(200)] * 8)
                self.same([begun] + steep + [meet(22, 100)] * 8 + [till(200)] * 4 + [COMES_FROM] * 8)
                self.same([begun] + steep + [meet(999999, 100)] * 8 + [till(200)] * 4 + [FORM, CARRIES, STEPS, TURNED])

    def test_long_answers(self):
        self.same([make(60)] + [go(100)] * 4 + [SHOWS, TURNED] * 17 + [FORM])

    def test_as_much_refused_as_there_may_be(self):
        self.same([go(GREATEST_TOLD)] * 40)
        self.same([make(GREATEST_TOLD)] * 40)
        self.same([meet(GREATEST_TOLD, GREATEST_TOLD)] * 8 + [till(GREATEST_TOLD)] * 16 + [BACK] * 16)


if __name__ == "__main__":
    unittest.main()
