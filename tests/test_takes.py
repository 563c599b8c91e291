"""Point 6: takes."""

import unittest

from tests.lines import (
    EVERY_WORD, LEAST, MOST, NO_WORD, THE_EMPTY_WORD, LineCase, all_of, counted, drawing, make, only, opened, state,
    step, told, tried,
)

OUT_OF_RANGE = (-1, -2, 65537, 65538, LEAST, MOST)
ENDS_IN_AB = ([0, 0, 1], [(0, 0, 255, 0), (0, 97, 97, 1), (1, 98, 98, 2)])
EVEN_AND_ENDS_IN_0 = (
    [0, 0, 1], [(0, 0, 255, 1), (1, 0, 0, 2), (1, 1, 255, 0), (2, 0, 255, 1)],
)


class TakesTest(LineCase):
    def test_words_taken_and_words_not(self):
        cases = {b"ab": 1, b"": 0, b"a": 0, b"b": 0, b"ba": 0, b"aab": 1, b"abab": 1, b"aba": 0, b"xab": 1, b"abx": 0}
        said = all_of(*ENDS_IN_AB, [tried(list(word)) for word in cases])
        self.assertEqual(said, [[takes] for takes in cases.values()])

    def test_the_empty_word(self):
        self.assertEqual(all_of(*THE_EMPTY_WORD, [tried([]), tried([0]), tried([0, 0])]), [[1], [0], [0]])
        self.assertEqual(all_of(*only([0]), [tried([]), tried([0]), tried([0, 0])]), [[0], [1], [0]])

    def test_every_word_and_none(self):
        words = [tried([]), tried([0]), tried([255]), tried(list(range(256)))]
        self.assertEqual(all_of(*EVERY_WORD, words), [[1]] * 4)
        self.assertEqual(all_of(*NO_WORD, words), [[0]] * 4)

    def test_without_states_no_word_is_taken(self):
        self.assertEqual(all_of([], [], [tried([]), tried([7])]), [[0], [0]])

    def test_bytes_at_the_ends_of_a_step(self):
        words = [tried([byte]) for byte in (0, 9, 10, 11, 199, 200, 201, 255)]
        self.assertEqual(all_of([0, 1], [(0, 10, 200, 1)], words), [[0], [0], [1], [1], [1], [1], [0], [0]])
        self.assertEqual(all_of([0, 1], [(0, 0, 10, 1), (0, 200, 255, 1)], words)[:1], [[1]])
        self.assertEqual(all_of([0, 1], [(0, 0, 10, 1), (0, 200, 255, 1)], words)[-1:], [[1]])

    def test_one_of_several_ways_is_enough(self):
        steps = [(0, 5, 5, 1), (0, 5, 5, 2), (1, 6, 6, 3), (2, 7, 7, 4)]
        said = all_of([0, 0, 0, 1, 1], steps, [tried([5, 6]), tried([5, 7]), tried([5]), tried([5, 8])])
        self.assertEqual(said, [[1], [1], [0], [0]])

    def test_long_words(self):
        said = all_of(*EVEN_AND_ENDS_IN_0, [tried([0] * 4000), tried([0] * 4001), tried([0] * 3999 + [1])])
        self.assertEqual(said, [[1], [0], [0]])

    def test_the_longest_word(self):
        word = [9] * 14999 + [0]
        self.assertEqual(all_of(*EVEN_AND_ENDS_IN_0, [tried(word), counted(0)]), [[1], [0, 0]])
        self.assertEqual(all_of(*EVEN_AND_ENDS_IN_0, [tried(word[1:])]), [[0]])

    def test_the_first_byte_of_a_long_word(self):
        steps = [(0, 1, 1, 1), (1, 0, 255, 1)]
        self.assertEqual(all_of([0, 1], steps, [tried([1] + [0] * 9000)]), [[1]])
        self.assertEqual(all_of([0, 1], steps, [tried([0] + [1] * 9000)]), [[0]])

    def test_n_out_of_range(self):
        for n in OUT_OF_RANGE:
            with self.subTest(n=n):
                said = all_of(*EVERY_WORD, [tried([], n=n), tried([1])])
                self.assertEqual(said, [[-2], [1]])

    def test_n_out_of_range_and_no_machine(self):
        for n in OUT_OF_RANGE:
            with self.subTest(n=n):
                self.assertEqual(told(opened(), tried([], n=n), state(1), tried([], n=n))[1:], [[-2], [0], [-2]])

    def test_the_greatest_n(self):
        self.assertEqual(all_of(*EVEN_AND_ENDS_IN_0, [tried([0] * 65536)]), [[1]])
        self.assertEqual(told(opened(), tried([0] * 65536)), [[0], [-4]])

    def test_no_machine(self):
        for word in ([], [0], [1, 2, 3]):
            self.assertEqual(told(opened(), tried(word), state(1), tried(word))[1:], [[-4], [0], [-4]])

    def test_the_call_behind_is_read_from_the_right_place(self):
        # The bytes of the words would be calls by themselves.
        words = [[], [1, 0], [4, 0, 5, 0, 0], [6, 0, 1, 1, 7], [9], [6, 0, 0, 0] * 100]
        calls = []
        for word in words:
            calls += [tried(word), counted(0), tried([], n=-1), counted(1), tried([], n=65537), step(0, 0, 256, 0)]
        said = all_of(*EVERY_WORD, calls)
        self.assertEqual(said, [[1], [0, 1], [-2], [0, 256], [-2], [-2]] * len(words))

    def test_the_same_also_without_a_machine(self):
        said = told(opened(), tried([2, 0, 1]), tried([], n=70000), state(1), tried([1, 0]), make(), tried([4, 0]))
        self.assertEqual(said[1:], [[-4], [-2], [0], [-4], [2], [0]])

    def test_each_object_has_its_own_words(self):
        said = told(
            *drawing(*ENDS_IN_AB, o=1), *drawing(*EVEN_AND_ENDS_IN_0, o=0), make(1), make(0),
            tried([97, 98], 1), tried([97, 98], 0), tried([97, 0], 0), tried([97, 0], 1),
        )
        self.assertEqual(said[-4:], [[1], [0], [1], [0]])


if __name__ == "__main__":
    unittest.main()
