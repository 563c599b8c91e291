"""Point 9: apart."""

import unittest

from tests.lines import (
    EVERY_WORD, LEAST, MOST, NO_WORD, ONLY_A, THE_EMPTY_WORD, LineCase, apart, at, but_for_1001, drawing, make,
    one_before_last, only, opened, row, state, step, told,
)

OUT_OF_RANGE = (-1, -2, 4097, 4098, LEAST, MOST)


def both(first, second, *calls):
    """Make the one drawing's machine as object 0, the other's as object 1, and answer what is said to these calls."""
    return told(*drawing(*first), *drawing(*second, o=1), make(), make(1), *calls)[-len(calls):]


class ApartTest(LineCase):
    def first_apart(self, first, second):
        """Ask both ways round, and with the drawings as the other object's."""
        said = both(first, second, apart(), apart(1)) + both(second, first, apart(), apart(1))
        self.assertEqual(said[1:], said[:-1])
        return said[0]

    def test_the_same_drawing(self):
        for taking, steps in (EVERY_WORD, NO_WORD, ONLY_A, ([], []), one_before_last(10), but_for_1001()):
            self.assertEqual(self.first_apart((taking, steps), (taking, steps)), [-1])

    def test_other_drawings_of_the_same_words(self):
        split = ([1, 1], [(0, 0, 99, 1), (0, 100, 255, 0), (1, 0, 255, 0)])
        self.assertEqual(self.first_apart(EVERY_WORD, split), [-1])
        self.assertEqual(self.first_apart(([], []), ([0, 0, 1], [(0, 0, 255, 1)])), [-1])
        self.assertEqual(self.first_apart(only([1, 2], [1, 3]), ([0, 0, 1], [(0, 1, 1, 1), (1, 2, 3, 2)])), [-1])
        turned = ([0, 1, 0], [(0, 6, 9, 2), (0, 1, 7, 2), (2, 4, 4, 1), (2, 3, 5, 1), (1, 100, 255, 1), (1, 0, 120, 1)])
        plain = ([0, 0, 1], [(0, 1, 9, 1), (1, 3, 5, 2), (2, 0, 255, 2)])
        self.assertEqual(self.first_apart(plain, turned), [-1])

    def test_the_empty_word(self):
        self.assertEqual(self.first_apart(EVERY_WORD, NO_WORD), [0])
        self.assertEqual(self.first_apart(THE_EMPTY_WORD, ([], [])), [0])
        self.assertEqual(self.first_apart(only([1], [2]), only([1], [2], [])), [0])

    def test_one_byte(self):
        for byte in (0, 1, 97, 254, 255):
            self.assertEqual(self.first_apart(only([byte]), NO_WORD), [1, byte])

    def test_the_least_of_the_bytes(self):
        self.assertEqual(self.first_apart(([0, 1], [(0, 10, 20, 1)]), NO_WORD), [1, 10])
        self.assertEqual(self.first_apart(([0, 1], [(0, 10, 20, 1)]), ([0, 1], [(0, 10, 30, 1)])), [1, 21])
        self.assertEqual(self.first_apart(([0, 1], [(0, 10, 20, 1)]), ([0, 1], [(0, 12, 20, 1)])), [1, 10])
        self.assertEqual(self.first_apart(([0, 1], [(0, 10, 255, 1)]), ([0, 1], [(0, 10, 254, 1)])), [1, 255])

    def test_the_first_in_order_whichever_takes_it(self):
        self.assertEqual(self.first_apart(only([98]), only([97])), [1, 97])
        self.assertEqual(self.first_apart(only([5, 5], [9, 1]), only([5, 5], [8, 2])), [2, 8, 2])
        self.assertEqual(self.first_apart(only([5, 5], [6, 200]), only([5, 5], [7, 0])), [2, 6, 200])

    def test_shorter_words_come_first(self):
        self.assertEqual(self.first_apart(only([255]), only([0, 0])), [1, 255])
        self.assertEqual(self.first_apart(only([0, 0, 0]), only([9, 9])), [2, 9, 9])
        self.assertEqual(self.first_apart(only([1], [1, 0, 0]), only([1], [2, 255])), [2, 2, 255])

    def test_the_smaller_byte_first_also_where_it_is_another_letter_ahead(self):
        # By 1 and by 2 the same states are reached, by 0 none: the first word goes by 1.
        steps = [(0, 1, 2, 1), (1, 7, 9, 2), (1, 3, 3, 2)]
        self.assertEqual(self.first_apart(([0, 0, 1], steps), NO_WORD), [2, 1, 3])
        self.assertEqual(self.first_apart(([0, 0, 1], steps), ([0, 0, 1], steps[:2])), [2, 1, 3])
        self.assertEqual(self.first_apart(([0, 0, 1], steps), ([0, 0, 1], steps[:1] + steps[2:])), [2, 1, 7])

    def test_longer_words(self):
        for length in (2, 3, 30, 62):
            word = [(place * 37 + 11) % 256 for place in range(length)]
            other = word[:-1] + [word[-1] + 1]
            self.assertEqual(self.first_apart(only(word), NO_WORD), [length] + word)
            self.assertEqual(self.first_apart(only(word), only(other)), [length] + word)

    def test_words_of_rounds(self):
        rounds = [([1] + [0] * (n - 1), [(place, 0, 0, (place + 1) % n) for place in range(n)]) for n in (2, 3, 63)]
        self.assertEqual(self.first_apart(rounds[0], rounds[1]), [2, 0, 0])
        self.assertEqual(self.first_apart(rounds[1], rounds[2]), [3, 0, 0, 0])
        self.assertEqual(self.first_apart(rounds[2], THE_EMPTY_WORD), [63] + [0] * 63)
        self.assertEqual(self.first_apart(rounds[2], ONLY_A), [1, 97])

    def test_a_word_of_more_than_1000_bytes(self):
        every_word_but_the_empty = ([0, 1], [(0, 0, 255, 1), (1, 0, 255, 1)])
        self.assertEqual(self.first_apart(but_for_1001(), every_word_but_the_empty), [1001] + [0] * 1001)

    def test_states_that_stand_for_several_of_the_other_machine(self):
        # Words of an even number of bytes; but for one of them the first takes all that begin so.
        even = ([1, 0], [(0, 0, 255, 1), (1, 0, 255, 0)])
        more = ([1, 0, 1, 0, 0], [(0, 0, 255, 1), (1, 0, 255, 2), (2, 0, 255, 3), (3, 0, 254, 0), (3, 255, 255, 4)])
        self.assertEqual(self.first_apart(even, more), [4, 0, 0, 0, 255])

    def test_large_machines(self):
        taking, steps = one_before_last(10)
        self.assertEqual(self.first_apart((taking, steps), one_before_last(9)), [9, 1] + [0] * 8)
        shorter = (taking, steps[:-1] + [(9, 0, 254, 10)])
        self.assertEqual(self.first_apart((taking, steps), shorter), [10, 1] + [0] * 8 + [255])

    def test_most(self):
        cases = {0: [], 1: [4], 2: [4, 5], 3: [4, 5, 6], 4: [4, 5, 6], 4095: [4, 5, 6], 4096: [4, 5, 6]}
        said = both(only([4, 5, 6]), NO_WORD, *[apart(0, most) for most in cases])
        self.assertEqual(said, [[3] + told_bytes for told_bytes in cases.values()])

    def test_most_of_a_long_word(self):
        every_word_but_the_empty = ([0, 1], [(0, 0, 255, 1), (1, 0, 255, 1)])
        counts = (0, 1, 1000, 1001, 1002, 4096)
        said = both(every_word_but_the_empty, but_for_1001(), *[apart(1, most) for most in counts])
        self.assertEqual(said, [[1001] + [0] * min(count, 1001) for count in counts])

    def test_most_of_the_empty_word_and_of_none(self):
        self.assertEqual(both(EVERY_WORD, NO_WORD, apart(0, 0), apart(0, 1)), [[0], [0]])
        self.assertEqual(both(EVERY_WORD, EVERY_WORD, apart(0, 0), apart(0, 1)), [[-1], [-1]])

    def test_most_out_of_range(self):
        for most in OUT_OF_RANGE:
            with self.subTest(most=most):
                said = both(ONLY_A, EVERY_WORD, apart(0, most), apart(1, most), apart())
                self.assertEqual(said, [[-2], [-2], [1, 0]])
                self.assertEqual(both(ONLY_A, ONLY_A, apart(0, most), apart(1, most)), [[-2], [-2]])

    def test_no_machine(self):
        drawn = drawing(*EVERY_WORD) + drawing(*EVERY_WORD, o=1)
        for most in (0, 1, 4096):
            with self.subTest(most=most):
                calls = [apart(0, most), apart(1, most)]
                self.assertEqual(told(*drawn, *calls)[-2:], [[-4], [-4]])
                self.assertEqual(told(*drawn, make(), *calls)[-2:], [[-4], [-4]])
                self.assertEqual(told(*drawn, make(1), *calls)[-2:], [[-4], [-4]])
                self.assertEqual(told(*drawn, make(), make(1), *calls)[-2:], [[-1], [-1]])

    def test_most_out_of_range_and_no_machine(self):
        drawn = drawing(*EVERY_WORD) + drawing(*EVERY_WORD, o=1)
        for most in OUT_OF_RANGE:
            with self.subTest(most=most):
                calls = [apart(0, most), apart(1, most)]
                self.assertEqual(told(*drawn, *calls)[-2:], [[-2], [-2]])
                self.assertEqual(told(*drawn, make(), *calls)[-2:], [[-2], [-2]])
                self.assertEqual(told(*drawn, make(1), *calls)[-2:], [[-2], [-2]])

    def test_the_machines_stay_as_they_were(self):
        said = both(ONLY_A, EVERY_WORD, apart(), row(0), row(0, 1), at(2), at(2, o=1), apart(1), apart())
        self.assertEqual(said[1], [0] + [1] * 97 + [0] + [1] * 158 + [1])
        self.assertEqual(said[2], [0] * 257 + [1])
        self.assertEqual(said[3:], [[2, 97, 97], [1, 1], [1, 0], [1, 0]])
        self.assertEqual(said[0], [1, 0])

    def test_the_next_machine_is_compared_anew(self):
        said = told(
            *drawing(*ONLY_A), *drawing(*ONLY_A, o=1), make(), make(1), apart(),
            step(0, 200, 201, 0), apart(), make(), apart(),
            step(0, 200, 202, 0, 1), apart(), make(1), apart(),
            opened(), apart(), make(), apart(),
        )
        self.assertEqual(said[8::2], [[-1], [-4], [1, 200], [-4], [1, 202], [-4], [0]])


if __name__ == "__main__":
    unittest.main()
