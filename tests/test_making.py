"""Points 3 and 5: make and row."""

import unittest

from tests.lines import (
    LEAST, MOST, LineCase, but_for_1001, drawing, machine, make, one_before_last, opened, row, state, step, told, whole,
)


class MakeTest(LineCase):
    def size(self, taking, steps):
        return told(*drawing(taking, steps), make())[-1]

    def test_without_states(self):
        self.assertEqual(told(opened(), make(), row(0), row(1)), [[0], [1], [0] * 258, [-2]])

    def test_no_word_is_taken(self):
        self.assertEqual(machine([0, 0], [(0, 0, 255, 1), (1, 3, 3, 0)]), [([0] * 256, 0)])

    def test_every_word_is_taken(self):
        self.assertEqual(machine([1, 1], [(0, 0, 255, 1), (1, 0, 99, 0), (1, 100, 255, 1)]), [([0] * 256, 1)])

    def test_only_the_empty_word_is_taken(self):
        self.assertEqual(machine([1], []), [([1] * 256, 1), ([1] * 256, 0)])

    def test_several_steps_by_the_same_byte(self):
        # Words over a and b that end in ab: three states, and one more for every other byte.
        steps = [(0, 97, 98, 0), (0, 97, 97, 1), (1, 98, 98, 2)]
        expected = [
            (whole((97, 1), (1, 2), (1, 0), (157, 1)), 0),
            (whole((256, 1)), 0),
            (whole((97, 1), (1, 2), (1, 3), (157, 1)), 0),
            (whole((97, 1), (1, 2), (1, 0), (157, 1)), 1),
        ]
        self.assertEqual(machine([0, 0, 1], steps), expected)

    def test_a_set_takes_if_one_of_its_states_does(self):
        for taking in ([0, 1, 0], [0, 0, 1], [0, 1, 1]):
            rows = machine(taking, [(0, 7, 7, 1), (0, 7, 7, 2)])
            self.assertEqual(rows[2:], [([1] * 256, 1)])

    def test_states_that_cannot_be_reached(self):
        steps = [(0, 1, 1, 1), (2, 0, 255, 1), (2, 1, 1, 3), (3, 0, 255, 2)]
        self.assertEqual(machine([0, 1, 1, 1], steps), machine([0, 1], [(0, 1, 1, 1)]))

    def test_states_that_take_nothing_are_merged(self):
        steps = [(0, 1, 1, 1), (0, 2, 2, 2), (2, 5, 5, 3), (3, 5, 5, 2)]
        self.assertEqual(machine([0, 1, 0, 0], steps), machine([0, 1], [(0, 1, 1, 1)]))

    def test_states_that_take_the_same_are_merged(self):
        # From 1 and from 2 the words of one byte 9 or more are taken, though the steps go to different states.
        steps = [(0, 1, 1, 1), (0, 2, 2, 2), (1, 9, 20, 3), (1, 21, 255, 4), (2, 9, 255, 4)]
        expected = [
            (whole((1, 1), (2, 2), (253, 1)), 0),
            (whole((256, 1)), 0),
            (whole((9, 1), (247, 3)), 0),
            (whole((256, 1)), 1),
        ]
        self.assertEqual(machine([0, 0, 0, 1, 1], steps), expected)

    def test_a_round_of_states_is_made_as_short_as_can_be(self):
        steps = [(place, 0, 255, (place + 1) % 60) for place in range(60)]
        for length in (1, 2, 3, 4, 5, 6, 10, 12, 15, 20, 30, 60):
            taking = [1 if place % length == 0 else 0 for place in range(60)]
            self.assertEqual(self.size(taking, steps), [length])

    def test_numbered_by_state_then_by_byte(self):
        # State 0 leads to 3 by the least byte, to 1 by the next, to 2 by the greatest; 4 is reached from 3 alone.
        steps = [(0, 200, 200, 2), (0, 100, 100, 1), (0, 0, 0, 3), (3, 0, 255, 4), (1, 1, 1, 2), (2, 2, 2, 2)]
        steps += [(4, 0, 0, 0)]
        expected = [
            (whole((1, 1), (99, 2), (1, 3), (99, 2), (1, 4), (55, 2)), 0),
            (whole((256, 5)), 1),
            (whole((256, 2)), 0),
            (whole((1, 2), (1, 4), (254, 2)), 0),
            (whole((2, 2), (1, 4), (253, 2)), 1),
            (whole((1, 0), (255, 2)), 1),
        ]
        self.assertEqual(machine([0, 0, 1, 1, 1], steps), expected)

    def test_how_it_is_drawn_does_not_matter(self):
        plain = machine([0, 0, 1], [(0, 1, 9, 1), (1, 3, 5, 2), (2, 0, 255, 2)])
        turned = [(0, 6, 9, 2), (0, 1, 7, 2), (2, 4, 4, 1), (2, 3, 5, 1), (1, 100, 255, 1), (1, 0, 120, 1)]
        self.assertEqual(machine([0, 1, 0], turned), plain)

    def test_again_the_same_machine(self):
        said = told(*drawing([1, 0], [(0, 4, 4, 1), (1, 4, 4, 0)]), make(), row(0), make(), row(0))
        self.assertEqual(said[-4][0], 3)
        self.assertEqual(said[-4:-2], said[-2:])

    def test_words_of_one_number_of_bytes_left_out(self):
        # Rounds of 7, 11 and 13 states, of each all but the first take: 1001 states, told apart one after another.
        said = told(*drawing(*but_for_1001()), make(), row(0), row(1), row(1000), row(1001))
        self.assertEqual(said[-5:-3], [[1001], [0] + [1] * 256 + [0]])
        self.assertEqual(said[-3:], [[0] + [2] * 256 + [1], [0] + [0] * 256 + [1], [-2]])

    def test_64_states(self):
        taking = [0] * 63 + [1]
        steps = [(place, place, place, place + 1) for place in range(63)]
        rows = machine(taking, steps)
        self.assertEqual(len(rows), 65)
        self.assertEqual(rows[:1], [(whole((1, 1), (255, 2)), 0)])
        self.assertEqual(rows[1:2], [(whole((1, 2), (1, 3), (254, 2)), 0)])
        self.assertEqual(rows[64:], [([2] * 256, 1)])

    def test_1024_steps_between_64_states(self):
        taking = [place % 2 for place in range(64)]
        steps = [(place // 16, place % 256, place % 256, place * 7 % 64) for place in range(1024)]
        self.assertGreater(self.size(taking, steps)[0], 1)


class TooManySetsTest(LineCase):
    def test_1024_sets(self):
        said = told(*drawing(*one_before_last(10)), make(), row(0), row(1023), row(1024))
        self.assertEqual(said[-4:-2], [[1024], [0, 0, 1] + [0] * 254 + [0]])
        self.assertEqual(len(said[-2]), 258)
        self.assertEqual(said[-1], [-2])

    def test_the_empty_set_is_the_1025th(self):
        said = told(*drawing(*one_before_last(10, 254)), make(), row(0), row(-1))
        self.assertEqual(said[-3:], [[-3], [-4], [-4]])

    def test_2048_sets(self):
        self.assertEqual(told(*drawing(*one_before_last(11)), make(), make())[-2:], [[-3], [-3]])

    def test_sets_are_counted_not_the_machine_s_states(self):
        taking, steps = one_before_last(11)
        self.assertEqual(told(*drawing([0] * len(taking), steps), make())[-1], [-3])

    def test_1024_sets_of_which_one_state_is_made(self):
        taking, steps = one_before_last(10)
        self.assertEqual(machine([0] * len(taking), steps), [([0] * 256, 0)])

    def test_sets_that_cannot_be_reached_do_not_count(self):
        taking, steps = one_before_last(11)
        moved = [(source + 1, low, high, target + 1) for source, low, high, target in steps]
        self.assertEqual(told(*drawing([1] + taking, moved), make())[-1], [2])

    def test_there_is_no_machine_also_where_there_was_one(self):
        taking, steps = one_before_last(11)
        said = told(*drawing(taking, steps[:-1]), make(), row(0), step(*steps[-1]), row(0), make(), row(0))
        self.assertEqual(said[-6], [1])
        self.assertEqual(said[-5], [0] * 258)
        self.assertEqual(said[-4:], [[0], [-4], [-3], [-4]])

    def test_behind_a_refused_make_the_drawing_is_there(self):
        said = told(*drawing(*one_before_last(11)), make(), state(1), step(0, 0, 0, 12), make())
        self.assertEqual(said[-4:], [[-3], [12], [0], [-3]])

    def test_the_other_machine_stays(self):
        said = told(opened(1), state(1, 1), make(1), *drawing(*one_before_last(11)), make(), row(1, 1), row(0, 0))
        self.assertEqual(said[-3:], [[-3], [0] + [1] * 256 + [0], [-4]])


class RowTest(LineCase):
    def test_256_states_then_1_or_0(self):
        said = told(*drawing([0, 1], [(0, 0, 0, 1), (1, 255, 255, 0)]), make(), row(0), row(1), row(2))
        self.assertEqual(said[-4], [3])
        self.assertEqual(said[-3], [0] + whole((1, 1), (255, 2)) + [0])
        self.assertEqual(said[-2], [0] + whole((255, 2), (1, 0)) + [1])
        self.assertEqual(said[-1], [0] + whole((256, 2)) + [0])

    def test_states_out_of_range(self):
        for number in (3, 4, -1, -3, 256, LEAST, MOST):
            with self.subTest(number=number):
                said = told(*drawing([0, 1], [(0, 0, 0, 1)]), make(), row(number), row(2))
                self.assertEqual(said[-2], [-2])
                self.assertEqual(len(said[-1]), 258)

    def test_a_state_of_the_drawing_alone_is_out_of_range(self):
        said = told(*drawing([1, 1, 1], [(0, 0, 255, 1), (1, 0, 255, 2), (2, 0, 255, 0)]), make(), row(1), row(0))
        self.assertEqual(said[-3:], [[1], [-2], [0] * 257 + [1]])

    def test_no_machine(self):
        for number in (0, 1, -1, 64, LEAST, MOST):
            with self.subTest(number=number):
                self.assertEqual(told(opened(), row(number), state(1), row(number))[1:], [[-4], [0], [-4]])


if __name__ == "__main__":
    unittest.main()
