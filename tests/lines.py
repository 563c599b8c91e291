"""What the tests share: calls by name, answers call by call, and drawings that are often used."""

import unittest

from bytemachines.drawings import answers

LEAST = -2147483648
MOST = 2147483647


class LineCase(unittest.TestCase):
    def setUp(self):
        # Lists that differ are told as they are: to set rows of 256 states against one another takes minutes.
        self.addTypeEqualityFunc(list, None)


def opened(o=0):
    return [1, o]


def state(takes, o=0):
    return [2, o, takes]


def step(source, low, high, target, o=0):
    return [3, o, source, low, high, target]


def make(o=0):
    return [4, o]


def row(number, o=0):
    return [5, o, number]


def told(*calls):
    """Answer what each of these calls is answered, as a list of lists."""
    numbers = answers([number for call in calls for number in call])
    split = []
    place = 0
    while place < len(numbers):
        count = numbers[place]
        split.append(numbers[place + 1:place + 1 + count])
        place += 1 + count
    if place != len(numbers) or len(split) != len(calls):
        raise AssertionError(f"{len(calls)} calls, but answers {numbers}")
    return split


def drawing(taking, steps, o=0):
    """Answer the calls that open an object and draw these states and steps."""
    calls = [opened(o)]
    calls.extend(state(takes, o) for takes in taking)
    calls.extend(step(*one, o=o) for one in steps)
    return calls


def machine(taking, steps):
    """Answer the rows of the drawing's machine: for each state 256 states and 1 or 0."""
    calls = drawing(taking, steps) + [make()]
    size = told(*calls)[-1][0]
    rows = told(*calls, *[row(number) for number in range(size)])[len(calls):]
    for one in rows:
        if len(one) != 258 or one[0] != 0:
            raise AssertionError(f"not a row: {one}")
    return [(one[1:257], one[257]) for one in rows]


def whole(*spans):
    """Answer 256 states from pairs of how many bytes and the state they lead to."""
    row_of_states = [target for count, target in spans for place in range(count)]
    if len(row_of_states) != 256:
        raise AssertionError("not 256 bytes")
    return row_of_states


def one_before_last(count, high=255):
    """A drawing that takes the words over bytes up to high in which byte 1 stands count places before the end.

    By words over bytes 0 to high 2 ** count sets are reached; by a byte above high the empty set too.
    """
    taking = [0] * count + [1]
    steps = [(0, 0, high, 0), (0, 1, 1, 1)]
    steps += [(place, 0, high, place + 1) for place in range(1, count)]
    return taking, steps
