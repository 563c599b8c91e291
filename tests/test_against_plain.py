"""Many drawings, each made a second time in the plainest way, straight from the words of the document."""

import itertools
import random
import unittest

from tests.lines import LineCase, drawing, machine, make, one_before_last, told


def led(steps, members, byte):
    return frozenset(target for source, low, high, target in steps if source in members and low <= byte <= high)


def plain_sets(taking, steps):
    """Answer the sets that words lead to, each with its 256 sets."""
    first = frozenset([0] if taking else [])
    rows = {}
    waiting = [first]
    while waiting:
        members = waiting.pop()
        if members not in rows:
            rows[members] = [led(steps, members, byte) for byte in range(256)]
            waiting.extend(sorted(set(rows[members]), key=sorted))
    return first, rows


def count_sets(steps, letters):
    """Answer how many sets the words over these bytes lead to from state 0."""
    found = {frozenset([0])}
    waiting = [frozenset([0])]
    while waiting:
        members = waiting.pop()
        for byte in letters:
            led_to = led(steps, members, byte)
            if led_to not in found:
                found.add(led_to)
                waiting.append(led_to)
    return len(found)


def plain_classes(taking, rows):
    """Answer for each set a number, the same for those from which the same words are taken."""
    classes = {members: int(any(taking[state] for state in members)) for members in rows}
    while True:
        looks = {members: (classes[members], tuple(classes[led_to] for led_to in rows[members])) for members in rows}
        numbers = {look: number for number, look in enumerate(dict.fromkeys(looks.values()))}
        finer = {members: numbers[looks[members]] for members in rows}
        if len(numbers) == len(set(classes.values())):
            return finer
        classes = finer


def plain_machine(taking, steps):
    first, rows = plain_sets(taking, steps)
    classes = plain_classes(taking, rows)
    order = [first]
    numbers = {classes[first]: 0}
    for members in order:
        for led_to in rows[members]:
            if classes[led_to] not in numbers:
                numbers[classes[led_to]] = len(order)
                order.append(led_to)
    return [
        ([numbers[classes[led_to]] for led_to in rows[members]], int(any(taking[state] for state in members)))
        for members in order
    ]


def drawing_takes(taking, steps, word):
    members = frozenset([0] if taking else [])
    for byte in word:
        members = led(steps, members, byte)
    return int(any(taking[state] for state in members))


def machine_takes(rows, word):
    state = 0
    for byte in word:
        state = rows[state][0][byte]
    return rows[state][1]


def drawn_by_chance(chance):
    size = chance.randint(1, 6)
    taking = [int(chance.random() < 0.4) for state in range(size)]
    edges = chance.choice(([0, 1, 2, 3], [0, 1, 127, 128, 254, 255], list(range(256))))
    steps = []
    for count in range(chance.randint(0, 14)):
        low, high = sorted((chance.choice(edges), chance.choice(edges)))
        steps.append((chance.randrange(size), low, high, chance.randrange(size)))
    return taking, steps


class AgainstPlainTest(LineCase):
    def test_the_machine_is_the_same(self):
        chance = random.Random(1)
        for turn in range(150):
            taking, steps = drawn_by_chance(chance)
            with self.subTest(turn=turn, taking=taking, steps=steps):
                self.assertEqual(machine(taking, steps), plain_machine(taking, steps))

    def test_the_same_words_are_taken(self):
        chance = random.Random(2)
        for turn in range(60):
            taking, steps = drawn_by_chance(chance)
            rows = machine(taking, steps)
            bytes_tried = sorted({0, 255} | {chance.randrange(256)} | {step[1] for step in steps[:2]})
            with self.subTest(turn=turn, taking=taking, steps=steps):
                for length in range(4):
                    for word in itertools.product(bytes_tried, repeat=length):
                        self.assertEqual(machine_takes(rows, word), drawing_takes(taking, steps, word))

    def test_more_sets_than_1024_are_refused_and_no_fewer(self):
        chance = random.Random(3)
        seen = set()
        for turn in range(40):
            taking, steps = one_before_last(chance.randint(9, 11))
            for count in range(chance.randint(1, 2)):
                byte = chance.randint(0, 2)
                steps.append((chance.randrange(len(taking)), byte, byte, chance.randrange(len(taking))))
            many = count_sets(steps, (0, 1, 2, 3)) > 1024
            seen.add(many)
            with self.subTest(turn=turn, taking=taking, steps=steps):
                self.assertEqual(told(*drawing(taking, steps), make())[-1] == [-3], many)
        self.assertEqual(seen, {True, False})


if __name__ == "__main__":
    unittest.main()
