"""Point 7: count."""

import unittest

from tests.lines import (
    EVERY_WORD, LEAST, MOST, NO_WORD, THE_EMPTY_WORD, LineCase, all_of, at, but_for_1001, counted, drawing, make,
    one_before_last, only, opened, state, step, told,
)

OUT_OF_RANGE = (-1, -2, 4097, 4098, 65536, LEAST, MOST)
LIMIT = 2 ** 64


class CountTest(LineCase):
    def counts(self, taking, steps, lengths):
        said = all_of(taking, steps, [counted(n) for n in lengths])
        for one in said:
            self.assertEqual((len(one), one[0]), (2, 0))
        return [one[1] for one in said]

    def test_every_word(self):
        lengths = (0, 1, 2, 7, 8, 9, 4095, 4096)
        self.assertEqual(self.counts(*EVERY_WORD, lengths), [1, 256, 65536, 2 ** 56, 0, 0, 0, 0])

    def test_no_word(self):
        self.assertEqual(self.counts(*NO_WORD, (0, 1, 2, 4096)), [0, 0, 0, 0])
        self.assertEqual(self.counts([], [], (0, 1, 2, 4096)), [0, 0, 0, 0])

    def test_the_empty_word_alone(self):
        self.assertEqual(self.counts(*THE_EMPTY_WORD, (0, 1, 2, 4096)), [1, 0, 0, 0])

    def test_a_few_words(self):
        self.assertEqual(self.counts(*only([], [3], [4, 4], [4, 5], [9, 9, 9]), range(6)), [1, 1, 2, 1, 0, 0])

    def test_how_many_bytes_a_step_has(self):
        for low, high in ((0, 0), (255, 255), (0, 255), (3, 5), (128, 255)):
            self.assertEqual(self.counts([0, 1], [(0, low, high, 1)], (0, 1, 2)), [0, high - low + 1, 0])

    def test_a_word_is_counted_once_however_many_ways_there_are(self):
        steps = [(0, 5, 8, 1), (0, 6, 9, 2), (0, 7, 7, 0), (1, 1, 1, 2), (2, 1, 1, 1), (0, 5, 8, 1)]
        self.assertEqual(self.counts([0, 1, 1], steps, (1, 2)), [5, 10])

    def test_beyond_2_to_the_64(self):
        lengths = (0, 1, 2, 40, 41, 64, 100, 4095, 4096)
        for letters in (2, 3, 10, 255):
            with self.subTest(letters=letters):
                expected = [letters ** n % LIMIT for n in lengths]
                self.assertEqual(self.counts([1], [(0, 1, letters, 0)], lengths), expected)

    def test_just_2_to_the_64(self):
        lengths = (62, 63, 64, 65)
        self.assertEqual(self.counts([1], [(0, 0, 1, 0)], lengths), [2 ** 62, 2 ** 63, 0, 0])
        # One word more of each length.
        taking, steps = [1, 1], [(0, 0, 1, 0), (0, 2, 2, 1), (1, 2, 2, 1)]
        expected = [(2 ** (n + 1) - 1) % LIMIT for n in lengths]
        self.assertEqual(self.counts(taking, steps, lengths), expected)
        self.assertEqual(expected[1:3], [LIMIT - 1, LIMIT - 1])

    def test_words_without_two_1_in_a_row(self):
        taking, steps = [1, 1], [(0, 0, 0, 0), (0, 1, 1, 1), (1, 0, 0, 0)]
        numbers = [1, 2]
        while len(numbers) <= 4096:
            numbers.append(numbers[-1] + numbers[-2])
        lengths = (0, 1, 2, 3, 10, 90, 93, 94, 1000, 4096)
        self.assertEqual(self.counts(taking, steps, lengths), [numbers[n] % LIMIT for n in lengths])

    def test_only_some_lengths(self):
        steps = [(place, 7, 7, (place + 1) % 64) for place in range(64)]
        lengths = (0, 1, 63, 64, 65, 4032, 4095, 4096)
        self.assertEqual(self.counts([1] + [0] * 63, steps, lengths), [1, 0, 0, 1, 0, 1, 0, 1])

    def test_large_machines(self):
        lengths = (0, 8, 9, 10, 41, 4096)
        expected = [0, 0] + [3 ** (n - 1) % LIMIT for n in lengths[2:]]
        self.assertEqual(self.counts(*one_before_last(9, 2), lengths), expected)
        lengths = (0, 1, 7, 1001, 1002, 2002, 4004)
        self.assertEqual(self.counts(*but_for_1001(), lengths), [0, 256, 2 ** 56, 0, 0, 0, 0])
        narrow = [(source, 5, 5, target) for source, low, high, target in but_for_1001()[1]]
        self.assertEqual(self.counts(but_for_1001()[0], narrow, lengths), [0, 1, 1, 0, 1, 0, 0])

    def test_in_whatever_order_they_are_asked(self):
        lengths = (10, 3, 3, 0, 11, 10, 200, 199, 0)
        self.assertEqual(self.counts([1], [(0, 0, 2, 0)], lengths), [3 ** n % LIMIT for n in lengths])

    def test_n_out_of_range(self):
        for n in OUT_OF_RANGE:
            with self.subTest(n=n):
                self.assertEqual(all_of(*EVERY_WORD, [counted(n), counted(1)]), [[-2], [0, 256]])

    def test_n_out_of_range_and_no_machine(self):
        for n in OUT_OF_RANGE:
            with self.subTest(n=n):
                self.assertEqual(told(opened(), counted(n), state(1), counted(n))[1:], [[-2], [0], [-2]])

    def test_no_machine(self):
        for n in (0, 1, 4096):
            self.assertEqual(told(opened(), counted(n), state(1), counted(n))[1:], [[-4], [0], [-4]])

    def test_the_next_machine_is_counted_anew(self):
        said = told(
            *drawing(*THE_EMPTY_WORD), make(), counted(1), counted(2), at(1),
            step(0, 0, 9, 0), make(), counted(1), counted(2),
            state(1), step(0, 5, 19, 1), make(), counted(1), counted(2),
            opened(), make(), counted(1), counted(0),
        )
        self.assertEqual(said[3:6], [[0, 0], [0, 0], [-1]])
        self.assertEqual(said[8:10], [[0, 10], [0, 100]])
        self.assertEqual(said[13:15], [[0, 20], [0, 200]])
        self.assertEqual(said[17:], [[0, 0], [0, 0]])

    def test_each_object_has_its_own_counts(self):
        said = told(
            *drawing(*EVERY_WORD, o=1), *drawing([1], [(0, 0, 2, 0)]), make(1), make(0),
            counted(2, 0), counted(2, 1), counted(3, 1), counted(3, 0),
        )
        self.assertEqual(said[-4:], [[0, 9], [0, 65536], [0, 2 ** 24], [0, 27]])


if __name__ == "__main__":
    unittest.main()
