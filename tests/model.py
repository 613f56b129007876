"""The words of the document over Python's whole numbers, in another way than the program's."""


def numeral(number, base):
    digits = []
    while number:
        digits.insert(0, number % base)
        number //= base
    return digits


def turned(number, base):
    value = 0
    while number:
        value = value * base + number % base
        number //= base
    return value


def train(number, base, steps):
    numbers = [number]
    for _ in range(steps):
        number += turned(number, base)
        numbers.append(number)
    return numbers


def till(number, base, most):
    for steps, reached in enumerate(train(number, base, most)):
        if reached == turned(reached, base):
            return [steps, len(numeral(reached, base))]
    return [-6]
