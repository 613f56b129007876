"""The train of a number: again and again it is turned round and added to itself."""

FIRST_BASE = 10
FIRST_NUMBER = 89

LEAST_BASE = 2
GREATEST_BASE = 16
GREATEST_NUMBER = 1000000
MOST_STEPS_OF_GO = 100
MOST_STEPS_SINCE_BEGIN = 400
MOST_STEPS_OF_TILL = 200
MOST_STEPS_OF_MEET = 100
GREATEST_COME_TO = 100000
BASE_OF_FORMS = 2
GREATEST_FORM_MADE = 60

NOT_AS_TOLD = -1
TOO_MANY_STEPS = -5
NOT_BY_THEN = -6
TOO_GREAT = -7
NO_STEP_MADE = -9

BEGIN = 0
SHOWS = 1
GO = 2
BACK = 3
ALIKE = 4
TURNED = 5
TILL = 6
CARRIES = 7
COMES_FROM = 8
MEET = 9
FORM = 10
MAKE = 11
STEPS = 12

# How many whole numbers stand behind a call's number, in the order of the calls above.
NUMBERS_BEHIND = (2, 0, 1, 0, 0, 0, 1, 0, 0, 2, 0, 1, 0)


def digits_of(number, base):
    lowest_first = []
    while number > 0:
        lowest_first.append(number % base)
        number = number // base
    return list(reversed(lowest_first))


def number_of(digits, base):
    number = 0
    for digit in digits:
        number = number * base + digit
    return number


def turned_round(digits):
    behind = list(reversed(digits))
    # This ends: the highest digit, which is now the last, isn't 0.
    noughts = 0
    while behind[noughts] == 0:
        noughts += 1
    return behind[noughts:]


def carries_of_step(digits, base):
    # The noughts that come first when it's turned round may stay here: they add nothing.
    behind = list(reversed(digits))
    carries = []
    carry = 0
    for place in range(len(digits)):
        carry = (digits[place] + behind[place] + carry) // base
        carries.append(carry)
    return carries


def stepped(digits, base):
    behind = list(reversed(digits))
    carries = carries_of_step(digits, base)
    # Nothing is carried to the lowest place.
    carried_to = [0] + carries
    lowest_first = [(digits[place] + behind[place] + carried_to[place]) % base for place in range(len(digits))]
    if carries[-1] > 0:
        lowest_first.append(1)
    return list(reversed(lowest_first))


def reads_alike(digits):
    return digits == turned_round(digits)


def counted(digits):
    return [len(digits)] + digits


def form_of(ones):
    return [1, 0] + [1] * ones + [0, 1] + [0] * ones


def with_two_digits(left, low, high, least, base):
    # The digits further in don't reach the place low of the sum: there these two must make up what is left,
    # so the one chosen at the place high tells the other.
    further = {}
    for chosen in left:
        for digit in range(least, base):
            other = (left[chosen] // low - digit) % base
            rest = left[chosen] - (digit + other) * (low + high)
            if rest >= 0:
                further[chosen + digit * high + other * low] = rest
    return further


def with_middle_digit(left, middle, least, base):
    further = {}
    for chosen in left:
        for digit in range(least, base):
            further[chosen + digit * middle] = left[chosen] - 2 * digit * middle
    return further


def numbers_before(number, base, highest):
    # Which numbers, the worth of their highest place as told, come to the number in a step: their digits are
    # chosen from both ends inwards, and each beginning keeps what is left of the sum for the digits further in.
    left = {0: number}
    low = 1
    high = highest
    least = 1
    while low < high:
        left = with_two_digits(left, low, high, least, base)
        low = low * base
        high = high // base
        # The highest digit alone isn't 0.
        least = 0
    if low == high:
        left = with_middle_digit(left, low, least, base)
    return [chosen for chosen in left if left[chosen] == 0]


def all_numbers_before(number, base):
    found = []
    highest = 1
    while highest <= number:
        found.extend(numbers_before(number, base, highest))
        highest = highest * base
    return found


def steps_to_numerals(digits, base, most):
    # A train only grows, so no numeral comes twice in it.
    steps_to = {}
    for steps in range(most + 1):
        steps_to[tuple(digits)] = steps
        digits = stepped(digits, base)
    return steps_to


class Train:
    def __init__(self):
        self.base = FIRST_BASE
        # What came of every step is kept, since back undoes them one by one.
        self.numerals = [digits_of(FIRST_NUMBER, FIRST_BASE)]

    def numeral(self):
        return self.numerals[-1]

    def steps_made(self):
        return len(self.numerals) - 1

    def begin(self, base, number):
        if base < LEAST_BASE or base > GREATEST_BASE:
            return [NOT_AS_TOLD]
        if number < 1 or number > GREATEST_NUMBER:
            return [NOT_AS_TOLD]
        self.base = base
        self.numerals = [digits_of(number, base)]
        return [0]

    def shows(self):
        return counted(self.numeral())

    def go(self, steps):
        if steps > MOST_STEPS_OF_GO:
            return [NOT_AS_TOLD]
        if self.steps_made() + steps > MOST_STEPS_SINCE_BEGIN:
            return [TOO_MANY_STEPS]
        for step in range(steps):
            self.numerals.append(stepped(self.numeral(), self.base))
        return [len(self.numeral())]

    def back(self):
        if self.steps_made() == 0:
            return [NO_STEP_MADE]
        self.numerals.pop()
        return [len(self.numeral())]

    def alike(self):
        return [1 if reads_alike(self.numeral()) else 0]

    def turned(self):
        return counted(turned_round(self.numeral()))

    def till(self, most):
        if most > MOST_STEPS_OF_TILL:
            return [NOT_AS_TOLD]
        digits = self.numeral()
        steps = 0
        while steps < most and not reads_alike(digits):
            digits = stepped(digits, self.base)
            steps += 1
        if not reads_alike(digits):
            return [NOT_BY_THEN]
        return [steps, len(digits)]

    def carries(self):
        return [sum(carries_of_step(self.numeral(), self.base))]

    def comes_from(self):
        number = number_of(self.numeral(), self.base)
        if number > GREATEST_COME_TO:
            return [TOO_GREAT]
        found = all_numbers_before(number, self.base)
        if len(found) == 0:
            return [0, 0, 0]
        return [len(found), min(found), max(found)]

    def meet(self, other, most):
        if other < 1 or other > GREATEST_NUMBER or most > MOST_STEPS_OF_MEET:
            return [NOT_AS_TOLD]
        steps_of_other = steps_to_numerals(digits_of(other, self.base), self.base, most)
        digits = self.numeral()
        for steps in range(most + 1):
            if tuple(digits) in steps_of_other:
                return [steps, steps_of_other[tuple(digits)]]
            digits = stepped(digits, self.base)
        return [NOT_BY_THEN]

    def form(self):
        digits = self.numeral()
        ones = (len(digits) - len(form_of(0))) // 2
        if self.base != BASE_OF_FORMS or ones < 1 or digits != form_of(ones):
            return [0, 0]
        return [1, ones]

    def make(self, ones):
        if ones < 1 or ones > GREATEST_FORM_MADE:
            return [NOT_AS_TOLD]
        self.base = BASE_OF_FORMS
        self.numerals = [form_of(ones)]
        return [len(self.numeral())]

    def steps(self):
        return [self.steps_made()]


def answer_of(train, call, told):
    if call == BEGIN:
        return train.begin(told[0], told[1])
    if call == SHOWS:
        return train.shows()
    if call == GO:
        return train.go(told[0])
    if call == BACK:
        return train.back()
    if call == ALIKE:
        return train.alike()
    if call == TURNED:
        return train.turned()
    if call == TILL:
        return train.till(told[0])
    if call == CARRIES:
        return train.carries()
    if call == COMES_FROM:
        return train.comes_from()
    if call == MEET:
        return train.meet(told[0], told[1])
    if call == FORM:
        return train.form()
    if call == MAKE:
        return train.make(told[0])
    # STEPS alone is left: no other call is handed in.
    return train.steps()


def answers(calls):
    train = Train()
    answered = []
    place = 0
    while place < len(calls):
        call = calls[place]
        behind = place + 1 + NUMBERS_BEHIND[call]
        answer = answer_of(train, call, calls[place + 1:behind])
        answered.append(len(answer))
        answered.extend(answer)
        place = behind
    return answered
