"""Point 4, and -4 beside -2: when there's a machine, and what is answered where there's none."""

import unittest

from tests.lines import (
    EVERY_WORD, LineCase, apart, at, counted, drawing, make, one_before_last, opened, row, state, step, told, tried,
)

# On object 0; object 1 has a machine that takes every word.
ASKED = [row(0), tried([5]), counted(1), at(0), apart(0), apart(1)]
OTHER = drawing(*EVERY_WORD, o=1) + [make(1)]
OUT_OF_RANGE = [row(-1), tried([], n=-1), counted(4097), at(0, -1), apart(0, 4097), apart(1, -1)]


class MachineTest(LineCase):
    def there_is_none(self, *calls):
        said = told(*OTHER, *calls, *ASKED, *OUT_OF_RANGE, counted(1, 1))
        self.assertEqual(said[-13:-7], [[-4]] * 6)
        # Of row -4 comes ahead of -2, of the others behind it.
        self.assertEqual(said[-7:], [[-4], [-2], [-2], [-2], [-2], [-2], [0, 256]])
        return said[len(OTHER):-13]

    def there_is_one(self, *calls):
        said = told(*OTHER, *calls, *ASKED, *OUT_OF_RANGE, counted(1, 1))
        for one in said[-13:-7]:
            self.assertNotEqual(one, [-4])
        self.assertEqual(said[-7:], [[-2]] * 6 + [[0, 256]])
        return said[len(OTHER):-13]

    def test_behind_open(self):
        self.there_is_none(opened())
        self.there_is_none(opened(), state(1), make(), opened())
        self.there_is_none(opened(), make(), opened())

    def test_behind_make(self):
        self.there_is_one(opened(), make())
        self.there_is_one(opened(), state(1), make())
        self.there_is_one(opened(), state(1), make(), make())
        self.there_is_one(opened(), state(1), make(), opened(), make())

    def test_behind_state(self):
        for takes in (0, 1):
            self.there_is_none(opened(), state(takes))
            self.there_is_none(opened(), make(), state(takes))
            self.there_is_none(opened(), state(1), make(), counted(9), at(1), state(takes))
            self.there_is_one(opened(), make(), state(takes), make())

    def test_behind_a_refused_state(self):
        self.assertEqual(self.there_is_one(opened(), state(1), make(), state(2))[-1], [-2])
        self.assertEqual(self.there_is_one(opened(), *[state(1)] * 64, make(), state(1))[-1], [-1])

    def test_behind_step(self):
        self.there_is_none(opened(), state(0), step(0, 0, 0, 0))
        self.there_is_none(opened(), state(0), make(), step(0, 0, 0, 0))
        self.there_is_none(opened(), state(1), make(), counted(9), at(1), step(0, 0, 255, 0))
        self.there_is_none(opened(), state(1), step(0, 1, 1, 0), make(), step(0, 1, 1, 0))
        self.there_is_one(opened(), state(1), make(), step(0, 0, 255, 0), make())

    def test_behind_a_refused_step(self):
        self.assertEqual(self.there_is_one(opened(), state(1), make(), step(0, 0, 256, 0))[-1], [-2])
        self.assertEqual(self.there_is_one(opened(), state(1), make(), step(0, 0, 0, 1))[-1], [-2])
        drawn = [opened(), state(1), *[step(0, 4, 4, 0)] * 1024, make(), step(0, 4, 4, 0)]
        self.assertEqual(self.there_is_one(*drawn)[-1], [-1])

    def test_behind_a_refused_make(self):
        taking, steps = one_before_last(11)
        self.assertEqual(self.there_is_none(*drawing(taking, steps), make())[-1], [-3])
        fewer = drawing(taking, steps[:-1])
        self.assertEqual(self.there_is_none(*fewer, make(), counted(3), step(*steps[-1]), make())[-1], [-3])
        self.assertEqual(self.there_is_none(*fewer, make(), step(*steps[-1]), make(), make())[-1], [-3])

    def test_behind_calls_on_the_other_object(self):
        self.there_is_none(opened(), state(1), make(1), counted(2, 1))
        self.there_is_one(opened(), state(1), make(), opened(1), *OTHER)

    def test_behind_refused_questions(self):
        self.there_is_one(opened(), state(1), make(), *OUT_OF_RANGE)
        self.there_is_none(opened(), state(1), *ASKED, *OUT_OF_RANGE)


if __name__ == "__main__":
    unittest.main()
