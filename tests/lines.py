"""What the tests share: calls by name, answers call by call, and drawings that are often used."""

import unittest

from bytemachines.drawings import answers

LEAST = -2147483648
MOST = 2147483647
GREATEST_PLACE = 18446744073709551615


class LineCase(unittest.TestCase):
    def setUp(self):
        # Lists that differ are told as they are: to set rows of 256 states against one another takes minutes.
        self.addTypeEqualityFunc(list, None)


def opened(o=0):
    return [1, o]


def state(takes, o=0):
    return [2, o, takes]


def step(source, low, high, target, o=0):
    return [3, o, source, low, high, target]


def make(o=0):
    return [4, o]


def row(number, o=0):
    return [5, o, number]


def tried(word, o=0, n=None):
    """The call takes; n stands in for how many bytes the word has where it's to be out of its range."""
    return [6, o, len(word) if n is None else n, len(word), *word]


def counted(n, o=0):
    return [7, o, n]


def at(k, most=4096, o=0):
    """The call word."""
    return [8, o, k, most]


def apart(o=0, most=4096):
    return [9, o, 1 - o, most]


def told(*calls):
    """Answer what each of these calls is answered, as a list of lists."""
    numbers = answers([number for call in calls for number in call])
    split = []
    place = 0
    while place < len(numbers):
        count = numbers[place]
        split.append(numbers[place + 1:place + 1 + count])
        place += 1 + count
    if place != len(numbers) or len(split) != len(calls):
        raise AssertionError(f"{len(calls)} calls, but answers {numbers}")
    return split


def drawing(taking, steps, o=0):
    """Answer the calls that open an object and draw these states and steps."""
    calls = [opened(o)]
    calls.extend(state(takes, o) for takes in taking)
    calls.extend(step(*one, o=o) for one in steps)
    return calls


def machine(taking, steps):
    """Answer the rows of the drawing's machine: for each state 256 states and 1 or 0."""
    calls = drawing(taking, steps) + [make()]
    size = told(*calls)[-1][0]
    rows = told(*calls, *[row(number) for number in range(size)])[len(calls):]
    for one in rows:
        if len(one) != 258 or one[0] != 0:
            raise AssertionError(f"not a row: {one}")
    return [(one[1:257], one[257]) for one in rows]


def all_of(taking, steps, calls):
    """Draw and make object 0 and answer what these calls on it are answered."""
    return told(*drawing(taking, steps), make(), *calls)[-len(calls):]


def whole(*spans):
    """Answer 256 states from pairs of how many bytes and the state they lead to."""
    row_of_states = [target for count, target in spans for place in range(count)]
    if len(row_of_states) != 256:
        raise AssertionError("not 256 bytes")
    return row_of_states


def one_before_last(count, high=255):
    """A drawing that takes the words over bytes up to high in which byte 1 stands count places before the end.

    By words over bytes 0 to high 2 ** count sets are reached; by a byte above high the empty set too.
    """
    taking = [0] * count + [1]
    steps = [(0, 0, high, 0), (0, 1, 1, 1)]
    steps += [(place, 0, high, place + 1) for place in range(1, count)]
    return taking, steps


EVERY_WORD = ([1], [(0, 0, 255, 0)])
NO_WORD = ([0], [(0, 0, 255, 0)])
THE_EMPTY_WORD = ([1], [])
ONLY_A = ([1], [(0, 97, 97, 0)])


def only(*words):
    """A drawing that takes just these words, of which at most one is empty."""
    taking = [int(any(len(word) == 0 for word in words))]
    steps = []
    for word in words:
        before = 0
        for place, byte in enumerate(word):
            steps.append((before, byte, byte, len(taking)))
            before = len(taking)
            taking.append(int(place == len(word) - 1))
    return taking, steps


def but_for_1001():
    """A drawing that takes words of 1 byte and more, but for those whose number of bytes can be divided by 1001."""
    taking, steps = [0], []
    for length in (7, 11, 13):
        begin = len(taking)
        taking += [0] + [1] * (length - 1)
        steps += [(begin + place, 0, 255, begin + (place + 1) % length) for place in range(length)]
        steps.append((0, 0, 255, begin + 1))
    return taking, steps
