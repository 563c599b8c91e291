"""Many drawings and many lines, each done a second time in the plainest way."""

import itertools
import random
import unittest

from tests.lines import (
    GREATEST_PLACE, LineCase, apart, at, counted, drawing, machine, make, one_before_last, opened, row, state, step,
    told, tried,
)
from tests.plain import drawing_takes, led, machine_takes, plain_machine, plain_told


def count_sets(steps, letters):
    """Answer how many sets the words over these bytes lead to from state 0."""
    found = {frozenset([0])}
    waiting = [frozenset([0])]
    while waiting:
        members = waiting.pop()
        for byte in letters:
            led_to = led(steps, members, byte)
            if led_to not in found:
                found.add(led_to)
                waiting.append(led_to)
    return len(found)


def drawn_by_chance(chance):
    size = chance.randint(1, 6)
    taking = [int(chance.random() < 0.4) for place in range(size)]
    edges = chance.choice(([0, 1, 2, 3], [0, 1, 127, 128, 254, 255], list(range(256))))
    steps = []
    for count in range(chance.randint(0, 14)):
        low, high = sorted((chance.choice(edges), chance.choice(edges)))
        steps.append((chance.randrange(size), low, high, chance.randrange(size)))
    return taking, steps


def changed_by_chance(chance, taking, steps):
    """Answer a drawing that differs by a step, by a state that takes, or not at all."""
    taking, steps = list(taking), list(steps)
    if steps and chance.random() < 0.6:
        place = chance.randrange(len(steps))
        source, low, high, target = steps[place]
        steps[place] = (source, low, chance.randint(low, 255), chance.choice((target, chance.randrange(len(taking)))))
    if chance.random() < 0.3:
        place = chance.randrange(len(taking))
        taking[place] = 1 - taking[place]
    return taking, steps


def place_by_chance(chance):
    return chance.choice((chance.randint(0, 5), chance.randint(0, 300), chance.randint(0, GREATEST_PLACE)))


def most_by_chance(chance):
    return chance.choice((4096, 4096, chance.randint(0, 5), chance.randint(-1, 1), chance.choice((4096, 4097))))


def call_by_chance(chance, o):
    kinds = [
        lambda: opened(o),
        lambda: state(chance.choice((0, 1, 1, 2, -1)), o),
        lambda: step(chance.randint(0, 2), *(chance.choice((0, 1, 9, 200, 255, 256)) for time in "lh"),
                     chance.randint(-1, 2), o),
        lambda: step(chance.randint(0, 1), chance.randint(0, 9), chance.randint(9, 255), chance.randint(0, 2), o),
        lambda: make(o),
        lambda: row(chance.randint(-1, 3), o),
        lambda: tried([chance.choice((0, 1, 9, 10, 255)) for place in range(chance.randint(0, 4))], o),
        lambda: tried([], o, chance.choice((-1, 65537))),
        lambda: counted(chance.choice((0, 1, 2, 3, 50, 300, -1, 4097)), o),
        lambda: at(place_by_chance(chance), most_by_chance(chance), o),
        lambda: apart(o, most_by_chance(chance)),
    ]
    return chance.choices(kinds, weights=(1, 6, 3, 6, 9, 4, 6, 2, 6, 6, 6))[0]()


class AgainstPlainTest(LineCase):
    def test_the_machine_is_the_same(self):
        chance = random.Random(1)
        for turn in range(150):
            taking, steps = drawn_by_chance(chance)
            with self.subTest(turn=turn, taking=taking, steps=steps):
                self.assertEqual(machine(taking, steps), plain_machine(taking, steps))

    def test_the_same_words_are_taken(self):
        chance = random.Random(2)
        for turn in range(60):
            taking, steps = drawn_by_chance(chance)
            rows = machine(taking, steps)
            bytes_tried = sorted({0, 255} | {chance.randrange(256)} | {one[1] for one in steps[:2]})
            with self.subTest(turn=turn, taking=taking, steps=steps):
                words = [word for length in range(4) for word in itertools.product(bytes_tried, repeat=length)]
                said = told(*drawing(taking, steps), make(), *[tried(word) for word in words])[-len(words):]
                self.assertEqual(said, [[drawing_takes(taking, steps, word)] for word in words])
                self.assertEqual(said, [[machine_takes(rows, word)] for word in words])

    def test_more_sets_than_1024_are_refused_and_no_fewer(self):
        chance = random.Random(3)
        seen = set()
        for turn in range(40):
            taking, steps = one_before_last(chance.randint(9, 11))
            for count in range(chance.randint(1, 2)):
                byte = chance.randint(0, 2)
                steps.append((chance.randrange(len(taking)), byte, byte, chance.randrange(len(taking))))
            many = count_sets(steps, (0, 1, 2, 3)) > 1024
            seen.add(many)
            with self.subTest(turn=turn, taking=taking, steps=steps):
                self.assertEqual(told(*drawing(taking, steps), make())[-1] == [-3], many)
        self.assertEqual(seen, {True, False})

    def test_words_counted_and_told(self):
        chance = random.Random(4)
        for turn in range(60):
            taking, steps = drawn_by_chance(chance)
            calls = drawing(taking, steps) + [make()]
            calls += [counted(n) for n in (5, 0, 1, 2, 3, 9, 64, 300)]
            calls += [at(k) for k in (0, 1, 2, 3, 257, 1000, GREATEST_PLACE)]
            calls += [at(place_by_chance(chance)) for time in range(5)]
            with self.subTest(turn=turn, taking=taking, steps=steps):
                self.assertEqual(told(*calls), plain_told(calls))

    def test_words_in_order(self):
        chance = random.Random(5)
        letters = [3, 4, 250]
        words = [word for n in range(5) for word in itertools.product(letters, repeat=n)]
        for turn in range(40):
            size = chance.randint(1, 5)
            taking = [chance.randint(0, 1) for place in range(size)]
            steps = [(chance.randrange(size), byte, byte, chance.randrange(size)) for byte in letters * size]
            taken = [word for word in words if drawing_takes(taking, steps, word) == 1]
            calls = drawing(taking, steps) + [make()] + [at(k) for k in range(len(taken))] + [counted(4)]
            with self.subTest(turn=turn, taking=taking, steps=steps):
                said = told(*calls)[len(calls) - 1 - len(taken):]
                self.assertEqual(said[:-1], [[len(word), *word] for word in taken])
                self.assertEqual(said[-1], [0, len([word for word in taken if len(word) == 4])])

    def test_the_first_word_apart(self):
        chance = random.Random(6)
        seen = set()
        for turn in range(150):
            first = drawn_by_chance(chance)
            second = changed_by_chance(chance, *first) if turn % 3 else drawn_by_chance(chance)
            calls = drawing(*first) + drawing(*second, o=1) + [make(), make(1), apart(), apart(1)]
            with self.subTest(turn=turn, first=first, second=second):
                said = told(*calls)
                self.assertEqual(said, plain_told(calls))
                seen.add(said[-1][0])
        self.assertLessEqual({-1, 0, 1, 2, 3}, seen)

    def test_lines_of_all_calls(self):
        chance = random.Random(7)
        for turn in range(150):
            calls = [opened(0), opened(1)]
            calls += [call_by_chance(chance, chance.randint(0, 1)) for time in range(60)]
            with self.subTest(turn=turn, calls=calls):
                self.assertEqual(told(*calls), plain_told(calls))


if __name__ == "__main__":
    unittest.main()
