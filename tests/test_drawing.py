"""Points 1 and 2 and the row on -2: open, state, step."""

import unittest

from tests.lines import LEAST, MOST, LineCase, make, opened, row, state, step, told

ODD_NUMBERS = (-1, 2, 3, 64, 255, LEAST, MOST)


class OpenTest(LineCase):
    def test_at_the_start(self):
        self.assertEqual(told(opened(0), opened(1)), [[0], [0]])
        self.assertEqual(told(opened(1)), [[0]])

    def test_the_drawing_has_no_states(self):
        self.assertEqual(told(opened(), step(0, 0, 0, 0), state(1)), [[0], [-2], [0]])

    def test_there_is_no_machine(self):
        self.assertEqual(told(opened(), row(0)), [[0], [-4]])

    def test_again_the_drawing_is_empty(self):
        drawn = [opened(), state(1), state(1), step(0, 0, 255, 1)]
        said = told(*drawn, opened(), step(0, 0, 0, 0), make(), row(0), state(0))
        self.assertEqual(said[4:7], [[0], [-2], [1]])
        self.assertEqual(said[7], [0] + [0] * 256 + [0])
        self.assertEqual(said[8], [0])

    def test_again_there_is_no_machine(self):
        self.assertEqual(told(opened(), state(1), make(), opened(), row(0))[2:], [[2], [0], [-4]])

    def test_again_the_states_are_counted_anew(self):
        said = told(opened(), *[state(0)] * 64, opened(), *[state(1)] * 65)
        self.assertEqual(said[66:], [[number] for number in range(64)] + [[-1]])

    def test_again_the_steps_are_counted_anew(self):
        said = told(opened(), state(0), *[step(0, 0, 0, 0)] * 1025, opened(), state(0), *[step(0, 0, 0, 0)] * 1025)
        self.assertEqual(said[1026], [-1])
        self.assertEqual(said[1029:], [[0]] * 1024 + [[-1]])

    def test_again_the_old_steps_are_gone(self):
        said = told(opened(), state(1), step(0, 0, 255, 0), opened(), state(1), make(), row(0))
        self.assertEqual(said[5:], [[2], [0] + [1] * 256 + [1]])


class StateTest(LineCase):
    def test_numbers_from_0_on(self):
        self.assertEqual(told(opened(), state(0), state(1), state(1), state(0))[1:], [[0], [1], [2], [3]])

    def test_it_takes_or_does_not(self):
        self.assertEqual(told(opened(), state(1), make(), row(0))[-1][257], 1)
        self.assertEqual(told(opened(), state(0), make(), row(0))[-1][257], 0)

    def test_other_takes_are_refused(self):
        for takes in ODD_NUMBERS:
            with self.subTest(takes=takes):
                self.assertEqual(told(opened(), state(takes), state(1)), [[0], [-2], [0]])

    def test_64_states_and_no_more(self):
        said = told(opened(), *[state(0)] * 63, state(1), state(1), state(0))
        self.assertEqual(said[64], [63])
        self.assertEqual(said[65:], [[-1], [-1]])

    def test_the_65th_changes_nothing(self):
        said = told(opened(), *[state(1)] * 64, make(), state(0), row(0), step(0, 0, 0, 64), row(1), step(0, 0, 0, 63))
        self.assertEqual(said[65:67], [[2], [-1]])
        self.assertEqual(said[67], [0] + [1] * 256 + [1])
        self.assertEqual(said[68], [-2])
        self.assertEqual(said[69], [0] + [1] * 256 + [0])
        self.assertEqual(said[70], [0])

    def test_of_two_refusals_the_one_told_first(self):
        for takes in ODD_NUMBERS:
            with self.subTest(takes=takes):
                self.assertEqual(told(opened(), *[state(0)] * 64, state(takes))[-1], [-2])

    def test_behind_it_there_is_no_machine(self):
        for takes in (0, 1):
            self.assertEqual(told(opened(), state(1), make(), state(takes), row(0))[2:], [[2], [1], [-4]])

    def test_behind_a_refused_one_the_machine_is_there(self):
        said = told(opened(), state(1), make(), state(2), row(0))
        self.assertEqual(said[3:], [[-2], [0] + [1] * 256 + [1]])


class StepTest(LineCase):
    def refused(self, *numbers):
        with self.subTest(step=numbers):
            said = told(opened(), state(1), state(0), make(), step(*numbers), row(0), row(1), make())
            self.assertEqual(said[4], [-2])
            self.assertEqual(said[5:], [[0] + [1] * 256 + [1], [0] + [1] * 256 + [0], [2]])

    def test_the_least_and_the_greatest_byte(self):
        for low, high in ((0, 0), (255, 255), (0, 255), (7, 7), (254, 255), (0, 1)):
            with self.subTest(low=low, high=high):
                said = told(opened(), state(0), state(1), step(0, low, high, 1), make(), row(0))
                self.assertEqual(said[3], [0])
                where = [place for place, target in enumerate(said[5][1:257]) if target == said[5][1 + low]]
                self.assertEqual(where, list(range(low, high + 1)))

    def test_low_and_high_out_of_range(self):
        for byte in (-1, 256, LEAST, MOST):
            self.refused(0, byte, 255, 1)
            self.refused(0, 0, byte, 1)
            self.refused(0, byte, byte, 1)

    def test_low_greater_than_high(self):
        self.refused(0, 1, 0, 1)
        self.refused(0, 255, 0, 1)
        self.refused(0, 255, 254, 1)
        self.refused(0, MOST, LEAST, 1)

    def test_states_out_of_range(self):
        for number in (-1, 2, 64, LEAST, MOST):
            self.refused(number, 0, 0, 0)
            self.refused(0, 0, 0, number)
            self.refused(number, 0, 0, number)

    def test_without_states_every_step_is_refused(self):
        self.assertEqual(told(opened(), step(0, 0, 255, 0), step(-1, 0, 0, -1))[1:], [[-2], [-2]])

    def test_a_state_is_known_only_once_it_came(self):
        said = told(opened(), state(0), step(0, 1, 1, 1), state(1), step(0, 1, 1, 1))
        self.assertEqual(said[2:], [[-2], [1], [0]])

    def test_a_state_may_lead_to_itself(self):
        self.assertEqual(told(opened(), state(1), step(0, 0, 255, 0), make(), row(0))[2:], [[0], [1], [0] * 257 + [1]])

    def test_1024_steps_and_no_more(self):
        said = told(opened(), state(0), state(1), *[step(0, 5, 6, 1)] * 1023, step(1, 0, 255, 1), step(0, 9, 9, 1))
        self.assertEqual(said[3:], [[0]] * 1024 + [[-1]])

    def test_the_1025th_changes_nothing(self):
        said = told(
            opened(), state(0), state(1), *[step(0, 5, 6, 1)] * 1024, make(),
            step(0, 9, 9, 1), row(0), state(0), step(0, 9, 9, 1), make(), row(0),
        )
        expected = [0] + [1] * 5 + [2] * 2 + [1] * 249 + [0]
        self.assertEqual(said[1027:], [[3], [-1], expected, [2], [-1], [3], expected])

    def test_a_refused_step_does_not_count(self):
        wrong = [step(1, 0, 0, 0), step(0, 0, 256, 0), step(0, 2, 1, 0), step(0, 0, 0, -1)] * 20
        said = told(opened(), state(0), *wrong, *[step(0, 0, 0, 0)] * 600, *wrong, *[step(0, 0, 0, 0)] * 424)
        self.assertEqual(said.count([-2]), 160)
        self.assertNotIn([-1], said)
        said = told(opened(), state(0), *[step(0, 0, 0, 0)] * 1024, *wrong, step(0, 0, 0, 0))
        self.assertEqual(said[1026:], [[-2]] * 80 + [[-1]])

    def test_behind_it_there_is_no_machine(self):
        said = told(opened(), state(1), step(0, 0, 255, 0), make(), step(0, 0, 255, 0), row(0), make(), row(0))
        self.assertEqual(said[3:], [[1], [0], [-4], [1], [0] * 257 + [1]])

    def test_steps_that_came_late_are_in_the_next_machine(self):
        said = told(opened(), state(1), make(), step(0, 10, 20, 0), make(), row(0))
        self.assertEqual(said[2:5], [[2], [0], [2]])
        self.assertEqual(said[5], [0] + [1] * 10 + [0] * 11 + [1] * 235 + [1])


if __name__ == "__main__":
    unittest.main()
