"""What the tests share: a list of calls handed in, and the answers call by call."""

from turnedsum.trains import answers


def begin(base, number):
    return (0, base, number)


def go(steps):
    return (2, steps)


def till(most):
    return (6, most)


def meet(other, most):
    return (9, other, most)


def make(ones):
    return (11, ones)


SHOWS = (1,)
BACK = (3,)
ALIKE = (4,)
TURNED = (5,)
CARRIES = (7,)
COMES_FROM = (8,)
FORM = (10,)
STEPS = (12,)

GREATEST_TOLD = 4294967295


def handed_in(*calls):
    return [number for call in calls for number in call]


def split_up(answered):
    """The answers call by call; fails if the counts don't fit what stands behind them."""
    parts = []
    place = 0
    while place < len(answered):
        end = place + 1 + answered[place]
        if answered[place] < 1 or end > len(answered):
            raise AssertionError(f"a count doesn't fit at {place}: {answered}")
        parts.append(answered[place + 1:end])
        place = end
    return parts


def asked(*calls):
    parts = split_up(answers(handed_in(*calls)))
    if len(parts) != len(calls):
        raise AssertionError(f"{len(calls)} calls, {len(parts)} answers")
    return parts


def last(*calls):
    return asked(*calls)[-1]
