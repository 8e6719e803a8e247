"""What the tests share: calls as the interface writes them, and answers call by call."""

from leftopen.office import answers

TOGETHER, GREATEST, LEAST, HOW_MANY = range(4)
TOP = 4294967295


def found(h, p, numbers):
    return [0, h, p, len(numbers)] + list(numbers)


def ask(what, t, people):
    return [1, what, t, len(people)] + list(people)


def would(what, t, people):
    return [2, what, t, len(people)] + list(people)


def range_of(i):
    return [3, i]


WORLDS = [4]


def guess(i):
    return [5, i]


def both(i, j):
    return [6, i, j]


def chance(what, t, v, people):
    return [7, what, t, v, len(people)] + list(people)


LOG = [8]
FREE = [9]

# Everybody has 0 at least, so this is told in every office and leaves its worlds as they are.
IDLE = ask(HOW_MANY, 0, [1])

# One of the two has 0 to 2, the other 3 to 5, once how many have 3 at least was told.
PAIR = [found(5, 2, [1, 4]), ask(HOW_MANY, 3, [1, 2])]
PAIR_TOLD = [[36], [1, 18]]


def line(calls):
    return [number for call in calls for number in call]


def split(numbers):
    """The answers, a list for each call."""
    given = []
    place = 0
    while place < len(numbers):
        end = place + 1 + numbers[place]
        given.append(numbers[place + 1:end])
        place = end
    return given


def told(*calls):
    return split(answers(line(calls)))
