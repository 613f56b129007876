"""The train of a number: again and again it is turned round and added to itself."""

FIRST_BASE = 10
FIRST_NUMBER = 89

LEAST_BASE = 2
GREATEST_BASE = 16
GREATEST_NUMBER = 1000000
MOST_STEPS_OF_GO = 100
MOST_STEPS_SINCE_BEGIN = 400
MOST_STEPS_OF_TILL = 200

NOT_AS_TOLD = -1
TOO_MANY_STEPS = -5
NOT_BY_THEN = -6
NO_STEP_MADE = -9

BEGIN = 0
SHOWS = 1
GO = 2
BACK = 3
ALIKE = 4
TURNED = 5
TILL = 6

# How many whole numbers stand behind a call's number, in the order of the calls above.
NUMBERS_BEHIND = (2, 0, 1, 0, 0, 0, 1)


def digits_of(number, base):
    lowest_first = []
    while number > 0:
        lowest_first.append(number % base)
        number = number // base
    return list(reversed(lowest_first))


def turned_round(digits):
    behind = list(reversed(digits))
    # This ends: the highest digit, which is now the last, isn't 0.
    noughts = 0
    while behind[noughts] == 0:
        noughts += 1
    return behind[noughts:]


def stepped(digits, base):
    # The noughts that come first when it's turned round may stay here: they add nothing.
    behind = list(reversed(digits))
    lowest_first = []
    carry = 0
    for place in range(len(digits)):
        total = digits[place] + behind[place] + carry
        lowest_first.append(total % base)
        carry = total // base
    if carry > 0:
        lowest_first.append(carry)
    return list(reversed(lowest_first))


def reads_alike(digits):
    return digits == turned_round(digits)


def counted(digits):
    return [len(digits)] + digits


class Train:
    def __init__(self):
        self.base = FIRST_BASE
        # What came of every step is kept, since back undoes them one by one.
        self.numerals = [digits_of(FIRST_NUMBER, FIRST_BASE)]

    def numeral(self):
        return self.numerals[-1]

    def steps_made(self):
        return len(self.numerals) - 1

    def begin(self, base, number):
        if base < LEAST_BASE or base > GREATEST_BASE:
            return [NOT_AS_TOLD]
        if number < 1 or number > GREATEST_NUMBER:
            return [NOT_AS_TOLD]
        self.base = base
        self.numerals = [digits_of(number, base)]
        return [0]

    def shows(self):
        return counted(self.numeral())

    def go(self, steps):
        if steps > MOST_STEPS_OF_GO:
            return [NOT_AS_TOLD]
        if self.steps_made() + steps > MOST_STEPS_SINCE_BEGIN:
            return [TOO_MANY_STEPS]
        for step in range(steps):
            self.numerals.append(stepped(self.numeral(), self.base))
        return [len(self.numeral())]

    def back(self):
        if self.steps_made() == 0:
            return [NO_STEP_MADE]
        self.numerals.pop()
        return [len(self.numeral())]

    def alike(self):
        return [1 if reads_alike(self.numeral()) else 0]

    def turned(self):
        return counted(turned_round(self.numeral()))

    def till(self, most):
        if most > MOST_STEPS_OF_TILL:
            return [NOT_AS_TOLD]
        digits = self.numeral()
        steps = 0
        while steps < most and not reads_alike(digits):
            digits = stepped(digits, self.base)
            steps += 1
        if not reads_alike(digits):
            return [NOT_BY_THEN]
        return [steps, len(digits)]


def answer_of(train, call, told):
    if call == BEGIN:
        return train.begin(told[0], told[1])
    if call == SHOWS:
        return train.shows()
    if call == GO:
        return train.go(told[0])
    if call == BACK:
        return train.back()
    if call == ALIKE:
        return train.alike()
    if call == TURNED:
        return train.turned()
    # TILL alone is left: no other call is handed in.
    return train.till(told[0])


def answers(calls):
    train = Train()
    answered = []
    place = 0
    while place < len(calls):
        call = calls[place]
        behind = place + 1 + NUMBERS_BEHIND[call]
        answer = answer_of(train, call, calls[place + 1:behind])
        answered.append(len(answer))
        answered.extend(answer)
        place = behind
    return answered
