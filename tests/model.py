"""The words of the document over Python's whole numbers, in another way than the program's."""

import functools
import re


def numeral(number, base):
    digits = []
    while number:
        digits.insert(0, number % base)
        number //= base
    return digits


def turned(number, base):
    value = 0
    while number:
        value = value * base + number % base
        number //= base
    return value


def train(number, base, steps):
    numbers = [number]
    for _ in range(steps):
        number += turned(number, base)
        numbers.append(number)
    return numbers


def till(number, base, most):
    for steps, there in enumerate(train(number, base, most)):
        if there == turned(there, base):
            return [steps, len(numeral(there, base))]
    return [-6]


def carries(number, base):
    # Each carry takes b from one place and gives 1 to the place above: the sum's digits come to b - 1 less.
    together = 2 * sum(numeral(number, base))
    return (together - sum(numeral(number + turned(number, base), base))) // (base - 1)


@functools.cache
def steps_backwards(base):
    """Every number up to 100000 that something comes to, with all that come to it: a plain search."""
    before = {}
    for number in range(1, 100000):
        there = number + turned(number, base)
        if there <= 100000:
            before.setdefault(there, []).append(number)
    return before


def comes_from(number, base):
    if number > 100000:
        return [-7]
    before = steps_backwards(base).get(number, [])
    return [len(before), min(before, default=0), max(before, default=0)]


def meet(number, other, base, most):
    own = train(number, base, most)
    others = train(other, base, most)
    for there in own:
        if there in others:
            return [own.index(there), others.index(there)]
    return [-6]


def form(number, base):
    found = re.fullmatch("10(1+)01(0+)", f"{number:b}") if base == 2 else None
    if found is None or len(found[1]) != len(found[2]):
        return [0, 0]
    return [1, len(found[1])]


def form_number(ones):
    return int("10" + "1" * ones + "01" + "0" * ones, 2)


def counted(number, base):
    digits = numeral(number, base)
    return [len(digits)] + digits


@functools.lru_cache(10000)
def reached(number, base, steps):
    return train(number, base, steps)[-1]


class Line:
    """A line's calls, one behind another, each a tuple as in asking.py."""

    def __init__(self):
        self.set_out(10, 89)

    def set_out(self, base, number):
        self.base = base
        self.start = number
        self.made = 0

    @property
    def number(self):
        return reached(self.start, self.base, self.made)

    def answer(self, call):
        name = ("begin", "shows", "go", "back", "alike", "turned", "till", "carries", "comes_from", "meet", "form",
                "make", "steps")[call[0]]
        return getattr(self, name)(*call[1:])

    def begin(self, base, number):
        if base not in range(2, 17) or number not in range(1, 1000001):
            return [-1]
        self.set_out(base, number)
        return [0]

    def shows(self):
        return counted(self.number, self.base)

    def go(self, steps):
        if steps > 100:
            return [-1]
        if self.made + steps > 400:
            return [-5]
        self.made += steps
        return self.shows()[:1]

    def back(self):
        if not self.made:
            return [-9]
        self.made -= 1
        return self.shows()[:1]

    def alike(self):
        return [int(self.number == turned(self.number, self.base))]

    def turned(self):
        return counted(turned(self.number, self.base), self.base)

    def till(self, most):
        return [-1] if most > 200 else till(self.number, self.base, most)

    def carries(self):
        return [carries(self.number, self.base)]

    def comes_from(self):
        return comes_from(self.number, self.base)

    def meet(self, other, most):
        if other not in range(1, 1000001) or most > 100:
            return [-1]
        return meet(self.number, other, self.base, most)

    def form(self):
        return form(self.number, self.base)

    def make(self, ones):
        if ones not in range(1, 61):
            return [-1]
        self.set_out(2, form_number(ones))
        return self.shows()[:1]

    def steps(self):
        return [self.made]


def line(calls):
    spoken_of = Line()
    return [spoken_of.answer(call) for call in calls]
