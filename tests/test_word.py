"""Point 8: word."""

import itertools
import unittest

from tests.lines import (
    EVERY_WORD, GREATEST_PLACE, LEAST, MOST, NO_WORD, ONLY_A, THE_EMPTY_WORD, LineCase, all_of, at, counted, drawing,
    make, one_before_last, only, opened, state, step, told,
)

OUT_OF_RANGE = (-1, -2, 4097, 4098, LEAST, MOST)


def as_bytes(number, length):
    return list(number.to_bytes(length, "big"))


class WordTest(LineCase):
    def words(self, taking, steps, places):
        return all_of(taking, steps, [at(k) for k in places])

    def test_every_word(self):
        places = (0, 1, 2, 256, 257, 258, 513, 65792, 65793)
        expected = [[0], [1, 0], [1, 1], [1, 255], [2, 0, 0], [2, 0, 1], [2, 1, 0], [2, 255, 255], [3, 0, 0, 0]]
        self.assertEqual(self.words(*EVERY_WORD, places), expected)

    def test_the_greatest_place(self):
        shorter = (256 ** 8 - 1) // 255
        expected = [[8] + as_bytes(GREATEST_PLACE - shorter, 8), [8] + as_bytes(GREATEST_PLACE - 1 - shorter, 8)]
        self.assertEqual(self.words(*EVERY_WORD, (GREATEST_PLACE, GREATEST_PLACE - 1)), expected)

    def test_no_word(self):
        self.assertEqual(self.words(*NO_WORD, (0, 1, GREATEST_PLACE)), [[-1]] * 3)
        self.assertEqual(self.words([], [], (0, 1, GREATEST_PLACE)), [[-1]] * 3)

    def test_the_empty_word_alone(self):
        self.assertEqual(self.words(*THE_EMPTY_WORD, (0, 1, 2, GREATEST_PLACE)), [[0], [-1], [-1], [-1]])

    def test_a_few_words_and_none_beyond_the_last(self):
        taking, steps = only([7, 7], [], [255], [7, 0, 0], [8, 0])
        expected = [[0], [1, 255], [2, 7, 7], [2, 8, 0], [3, 7, 0, 0], [-1], [-1], [-1]]
        self.assertEqual(self.words(taking, steps, (0, 1, 2, 3, 4, 5, 6, GREATEST_PLACE)), expected)

    def test_words_of_two_letters_in_order(self):
        letters = (5, 200)
        expected = [[n, *word] for n in range(6) for word in itertools.product(letters, repeat=n)]
        taking, steps = [1], [(0, 200, 200, 0), (0, 5, 5, 0)]
        self.assertEqual(self.words(taking, steps, range(len(expected))), expected)

    def test_of_one_length_the_smaller_byte_first(self):
        # Bytes 3 to 5 and 250 to 255 lead to one state, 100 to another; from either one byte more is read.
        steps = [(0, 100, 100, 2), (0, 250, 255, 1), (0, 3, 5, 1), (2, 9, 9, 3), (2, 1, 2, 3), (1, 0, 1, 3)]
        firsts = {3: (0, 1), 4: (0, 1), 5: (0, 1), 100: (1, 2, 9)}
        firsts.update({first: (0, 1) for first in range(250, 256)})
        expected = [[2, first, second] for first, seconds in firsts.items() for second in seconds]
        self.assertEqual(self.words([0, 0, 0, 1], steps, range(len(expected) + 1)), expected + [[-1]])

    def test_a_word_stands_once_however_many_ways_there_are(self):
        steps = [(0, 1, 3, 1), (0, 2, 4, 2), (0, 3, 3, 1)]
        expected = [[1, 1], [1, 2], [1, 3], [1, 4], [-1]]
        self.assertEqual(self.words([0, 1, 1], steps, range(5)), expected)

    def test_lengths_without_words_are_passed_over(self):
        steps = [(place, 1, 2, (place + 1) % 5) for place in range(5)]
        expected = [[0], [5, 1, 1, 1, 1, 1], [5, 2, 2, 2, 2, 2], [10] + [1] * 10, [10] + [1] * 9 + [2], [15] + [1] * 15]
        self.assertEqual(self.words([1] + [0] * 4, steps, (0, 1, 32, 33, 34, 33 + 1024)), expected)

    def test_256_bytes_and_no_more(self):
        expected = [[255] + [97] * 255, [256] + [97] * 256, [-1], [-1], [-1]]
        self.assertEqual(self.words(*ONLY_A, (255, 256, 257, 258, GREATEST_PLACE)), expected)

    def test_the_next_word_has_far_more_than_256_bytes(self):
        steps = [(place, 3, 3, (place + 1) % 64) for place in range(64)]
        expected = [[0], [64] + [3] * 64, [256] + [3] * 256, [-1]]
        self.assertEqual(self.words([1] + [0] * 63, steps, (0, 1, 4, 5)), expected)

    def test_the_last_of_256_bytes(self):
        # Words of any number of 1, then 2 or none: two of each length but the empty one.
        taking, steps = [1, 1], [(0, 1, 1, 0), (0, 2, 2, 1)]
        expected = [[0], [1, 1], [1, 2], [2, 1, 1], [2, 1, 2], [256] + [1] * 256, [256] + [1] * 255 + [2], [-1]]
        self.assertEqual(self.words(taking, steps, (0, 1, 2, 3, 4, 511, 512, 513)), expected)

    def test_many_more_words_than_can_be_asked_for(self):
        steps = [(place, 0, 255, place + 1) for place in range(60)]
        places = (0, 1, 255, 256, 2 ** 32, 2 ** 63, GREATEST_PLACE)
        self.assertEqual(self.words([0] * 60 + [1], steps, places), [[60] + as_bytes(k, 60) for k in places])

    def test_every_word_behind_a_long_beginning(self):
        begun = [(place, 7, 7, place + 1) for place in range(63)]
        shorter = (256 ** 8 - 1) // 255
        places = (0, 1, 256, 257, GREATEST_PLACE)
        endings = [[], [0], [255], [0, 0], as_bytes(GREATEST_PLACE - shorter, 8)]
        expected = [[63 + len(ending)] + [7] * 63 + ending for ending in endings]
        self.assertEqual(self.words([0] * 63 + [1], begun + [(63, 0, 255, 63)], places), expected)

    def test_few_words_ahead_of_very_many(self):
        # By 0 the words of 9 more bytes of which the first is 1, by 1 all of 9 more bytes.
        steps = [(0, 0, 0, 1), (1, 1, 1, 3), (0, 1, 1, 2), (2, 0, 255, 3)]
        steps += [(place, 0, 255, place + 1) for place in range(3, 11)]
        places = (0, 2 ** 64 - 1)
        taking = [0] * 11 + [1]
        self.assertEqual(self.words(taking, steps, places), [[10, 0, 1] + as_bytes(k, 8) for k in places])
        # The same, but 7 of the 8 last bytes are free: the first words behind them are reached.
        steps[-1] = (10, 5, 5, 11)
        places = (2 ** 56 - 1, 2 ** 56, 2 ** 57 - 1, 2 ** 64 - 1)
        expected = [[10, 0, 1] + as_bytes(places[0], 7) + [5]]
        expected += [[10, 1] + as_bytes(k - 2 ** 56, 8) + [5] for k in places[1:]]
        self.assertEqual(self.words(taking, steps, places), expected)

    def test_just_2_to_the_64_words_of_one_length(self):
        steps = [(place, 0, 255, place + 1) for place in range(8)]
        said = self.words([0] * 8 + [1], steps, (0, GREATEST_PLACE))
        self.assertEqual(said, [[8] + [0] * 8, [8] + [255] * 8])
        # The empty word too: the last one has 2 ** 64 before it.
        said = self.words([1] + [0] * 7 + [1], steps, (0, 1, GREATEST_PLACE))
        self.assertEqual(said, [[0], [8] + [0] * 8, [8] + [255] * 7 + [254]])

    def test_2_to_the_64_less_1_words_in_all(self):
        steps = [(place, 0, 1, place + 1) for place in range(63)]
        said = self.words([1] * 64, steps, (2 ** 63 - 2, 2 ** 63 - 1, GREATEST_PLACE - 1, GREATEST_PLACE))
        self.assertEqual(said, [[62] + [1] * 62, [63] + [0] * 63, [63] + [1] * 63, [-1]])

    def test_a_large_machine(self):
        taking, steps = one_before_last(9, 2)
        first = [9, 1] + [0] * 8
        last = [9, 1] + [2] * 8
        self.assertEqual(self.words(taking, steps, (0, 3 ** 8 - 1, 3 ** 8)), [first, last, [10, 0, 1] + [0] * 8])

    def test_most(self):
        taking, steps = only([4, 5, 6])
        cases = {0: [], 1: [4], 2: [4, 5], 3: [4, 5, 6], 4: [4, 5, 6], 4095: [4, 5, 6], 4096: [4, 5, 6]}
        said = all_of(taking, steps, [at(0, most) for most in cases])
        self.assertEqual(said, [[3] + told_bytes for told_bytes in cases.values()])

    def test_most_of_the_longest_word(self):
        said = all_of(*ONLY_A, [at(256, most) for most in (0, 1, 255, 256, 257, 4096)])
        self.assertEqual(said, [[256] + [97] * count for count in (0, 1, 255, 256, 256, 256)])

    def test_most_of_the_empty_word_and_of_none(self):
        self.assertEqual(all_of(*THE_EMPTY_WORD, [at(0, 0), at(0, 1), at(1, 0), at(1, 5)]), [[0], [0], [-1], [-1]])

    def test_most_out_of_range(self):
        for most in OUT_OF_RANGE:
            with self.subTest(most=most):
                said = all_of(*ONLY_A, [at(0, most), at(1, most), at(300, most), at(1, 1)])
                self.assertEqual(said, [[-2], [-2], [-2], [1, 97]])

    def test_most_out_of_range_and_no_machine(self):
        for most in OUT_OF_RANGE:
            with self.subTest(most=most):
                self.assertEqual(told(opened(), at(0, most), state(1), at(0, most))[1:], [[-2], [0], [-2]])

    def test_no_machine(self):
        for k in (0, 1, GREATEST_PLACE):
            for most in (0, 4096):
                self.assertEqual(told(opened(), at(k, most), state(1), at(k, most))[1:], [[-4], [0], [-4]])

    def test_words_and_counts_do_not_disturb_one_another(self):
        last = at(2 ** 64 - 2)
        word = [63] + [1] * 63
        calls = [counted(70), last, counted(64), at(0), counted(3), last, counted(70), counted(63), at(2 ** 64 - 1)]
        expected = [[0, 0], word, [0, 0], [0], [0, 8], word, [0, 0], [0, 2 ** 63], [64] + [0] * 64]
        self.assertEqual(all_of([1], [(0, 0, 1, 0)], calls), expected)

    def test_the_next_machine_is_gone_through_anew(self):
        said = told(
            *drawing(*ONLY_A), make(), at(1), step(0, 5, 5, 0), at(1), make(), at(1), at(2),
            opened(), make(), at(0),
        )
        self.assertEqual(said[4:7], [[1, 97], [0], [-4]])
        self.assertEqual(said[8:10], [[1, 5], [1, 97]])
        self.assertEqual(said[12], [-1])

    def test_each_object_has_its_own_words(self):
        drawn = drawing(*ONLY_A) + drawing(*EVERY_WORD, o=1) + [make(), make(1)]
        said = told(*drawn, at(2), at(2, o=1), at(1), at(1, o=1))
        self.assertEqual(said[-4:], [[2, 97, 97], [1, 1], [1, 97], [1, 0]])


if __name__ == "__main__":
    unittest.main()
