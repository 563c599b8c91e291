"""The interface: how calls are handed in and answers given back, and what the function leaves alone."""

import ast
import contextlib
import io
import pathlib
import unittest

import bytemachines
from bytemachines.drawings import answers
from tests.lines import (
    EVERY_WORD, GREATEST_PLACE, ONLY_A, LineCase, apart, at, counted, drawing, make, one_before_last, opened, row,
    state, step, told, tried,
)

PACKAGE = pathlib.Path(bytemachines.__file__).parent

# Every call, on both objects, answered and refused.
ALL_CALLS = drawing(*ONLY_A) + drawing(*one_before_last(3), o=1) + [
    row(0), tried([1, 2]), counted(0), at(0), apart(), make(), make(1), apart(), apart(1, 0), apart(0, 4097),
    row(0), row(1), row(2), row(7, 1), tried([]), tried([97]), tried([98]), tried([], n=-1), tried([1, 0, 0], 1),
    counted(0), counted(9), counted(9, 1), counted(4097), at(0), at(2), at(2, 1), at(257), at(0, -1), at(9, 2, 1),
    at(GREATEST_PLACE, 4096, 1), state(2), step(0, 1, 0, 0), state(1), counted(0), make(), counted(1), opened(), at(0),
]


class Unchanging(list):
    def refuse(self, *arguments, **named):
        raise AssertionError("it was changed")

    __setitem__ = __delitem__ = __iadd__ = __imul__ = refuse
    append = extend = insert = pop = remove = clear = sort = reverse = refuse


class AnswersTest(LineCase):
    def test_no_calls_no_answers(self):
        self.assertEqual(answers([]), [])

    def test_each_answer_stands_behind_its_count(self):
        calls = [1, 0, 2, 0, 0, 2, 0, 1, 3, 0, 0, 5, 9, 1, 5, 0, 0, 4, 0, 5, 0, 2]
        rows = [258, 0] + [1] * 256 + [1]
        self.assertEqual(answers(calls), [1, 0, 1, 0, 1, 1, 1, 0, 1, -4, 1, 3] + rows)

    def test_each_call_is_read_as_the_interface_writes_it(self):
        calls = [1, 0, 2, 0, 1, 3, 0, 0, 97, 97, 0, 1, 1, 2, 1, 0, 4, 0, 4, 1]
        calls += [6, 0, 3, 3, 97, 97, 97, 6, 0, 0, 0, 6, 0, -1, 0, 7, 0, 5, 8, 0, 3, 2, 9, 0, 1, 10, 9, 1, 0, 0]
        expected = [1, 0, 1, 0, 1, 0, 1, 0, 1, 0, 1, 2, 1, 1]
        expected += [1, 1, 1, 1, 1, -2, 2, 0, 1, 3, 3, 97, 97, 1, 0, 1, 0]
        self.assertEqual(answers(calls), expected)

    def test_of_a_word_only_its_first_bytes_are_told_and_counted(self):
        said = answers([1, 0, 2, 0, 1, 3, 0, 0, 97, 97, 0, 4, 0, 8, 0, 9, 0, 8, 0, 9, 4, 8, 0, 9, 12, 8, 0, 999, 9])
        self.assertEqual(said[8:], [1, 9] + [5, 9] + [97] * 4 + [10, 9] + [97] * 9 + [1, -1])

    def test_a_refusal_is_its_number_alone(self):
        self.assertEqual(answers([1, 1, 2, 1, 7, 3, 1, 0, 0, 0, 0, 5, 1, 0]), [1, 0, 1, -2, 1, -2, 1, -4])

    def test_numbers_and_lists_are_plain(self):
        numbers = answers(opened() + state(1) + step(0, 0, 255, 0) + make() + row(0))
        self.assertIs(type(numbers), list)
        self.assertEqual({type(number) for number in numbers}, {int})
        numbers = answers([number for call in ALL_CALLS for number in call])
        self.assertEqual({type(number) for number in numbers}, {int})

    def test_what_is_handed_in_is_as_it_was(self):
        calls = [number for call in ALL_CALLS for number in call]
        kept = list(calls)
        answers(calls)
        self.assertEqual(calls, kept)

    def test_what_is_handed_in_is_not_changed_for_a_while_either(self):
        calls = tuple(number for call in ALL_CALLS for number in call)
        self.assertEqual(answers(Unchanging(calls)), answers(list(calls)))

    def test_the_answer_is_a_new_list_each_time(self):
        first = answers([])
        first.append(5)
        self.assertEqual(answers([]), [])

    def test_nothing_is_kept_from_one_time_to_the_next(self):
        calls = opened() + state(1) + step(0, 3, 4, 0) + make() + row(0) + row(1)
        first = answers(calls)
        answers(opened() + opened(1) + state(0) + state(0, 1) + make() + make(1))
        self.assertEqual(answers(calls), first)
        self.assertEqual(told(opened(), row(0))[1], [-4])
        first = told(*ALL_CALLS)
        told(*drawing(*EVERY_WORD), *drawing(*EVERY_WORD, o=1), make(), make(1), counted(20), at(70000), apart())
        self.assertEqual(told(*ALL_CALLS), first)
        for call in (counted(0), at(0), tried([]), apart(0), apart(1)):
            self.assertEqual(told(opened(), opened(1), call)[2], [-4])

    def test_it_prints_nothing(self):
        out = io.StringIO()
        with contextlib.redirect_stdout(out), contextlib.redirect_stderr(out):
            told(*ALL_CALLS)
        self.assertEqual(out.getvalue(), "")

    def test_it_imports_nothing_but_its_own_files(self):
        for path in sorted(PACKAGE.rglob("*.py")):
            for node in ast.walk(ast.parse(path.read_text())):
                self.assertNotIsInstance(node, ast.Import, path)
                if isinstance(node, ast.ImportFrom):
                    self.assertTrue(node.module.startswith("bytemachines."), path)

    def test_the_longest_line_is_gone_through(self):
        calls = opened() + state(0) * 5332
        self.assertEqual(len(calls), 15998)
        numbers = answers(calls)
        self.assertEqual(len(numbers), 2 * 5333)
        self.assertEqual(numbers[-2:], [1, -1])

    def test_200_calls_with_the_longest_words(self):
        calls = drawing(*ONLY_A) + [make()] + [at(256)] * 100 + [tried([97] * 150), tried([97] * 149 + [98])] * 48
        self.assertEqual(len(calls), 200)
        self.assertLessEqual(sum(len(call) for call in calls), 16000)
        said = told(*calls)
        self.assertEqual(said[4:104], [[256] + [97] * 256] * 100)
        self.assertEqual(said[104:], [[1], [0]] * 48)


class TwoObjectsTest(LineCase):
    def test_they_do_not_touch_one_another(self):
        said = told(
            opened(0), opened(1), state(0, 0), state(1, 1), state(1, 1), state(1, 0), state(0, 1),
            step(0, 65, 65, 2, 1), step(0, 65, 65, 2, 0), step(0, 65, 65, 1, 0),
            make(1), row(0, 0), make(0), row(0, 1), row(0, 0),
        )
        self.assertEqual(said[2:7], [[0], [0], [1], [1], [2]])
        self.assertEqual(said[7:10], [[0], [-2], [0]])
        self.assertEqual(said[10:13], [[2], [-4], [3]])
        self.assertEqual(said[13], [0] + [1] * 256 + [1])
        self.assertEqual(said[14], [0] + [1] * 65 + [2] + [1] * 190 + [0])

    def test_a_change_of_one_leaves_the_machine_of_the_other(self):
        said = told(
            opened(0), opened(1), state(1, 0), state(1, 1), make(0), make(1),
            state(0, 0), step(0, 1, 2, 0, 0), row(0, 0), row(0, 1), opened(0), row(1, 1),
        )
        self.assertEqual(said[8], [-4])
        self.assertEqual(said[9], [0] + [1] * 256 + [1])
        self.assertEqual(said[11], [0] + [1] * 256 + [0])

    def test_calls_on_both_one_behind_another(self):
        said = told(
            *drawing(*ONLY_A, o=1), opened(0), make(1),
            tried([97], 1), at(1, o=1), apart(0), make(0), apart(0), apart(1), state(1, 0),
            counted(1, 1), counted(1, 0), make(0), apart(1), counted(1, 0), at(1, o=0), at(1, 1, 1),
            step(0, 97, 97, 0, 0), apart(0), make(0), apart(0), tried([97, 97], 0), tried([97, 98], 1),
        )
        self.assertEqual(said[4:12], [[2], [1], [1, 97], [-4], [1], [0], [0], [0]])
        self.assertEqual(said[12:19], [[0, 1], [-4], [2], [1, 97], [0, 0], [-1], [1, 97]])
        self.assertEqual(said[19:], [[0], [-4], [2], [-1], [1], [0]])

    def test_each_has_its_own_counts(self):
        said = told(opened(0), opened(1), *[state(0, 0)] * 64, state(0, 0), state(0, 1))
        self.assertEqual(said[-2:], [[-1], [0]])


if __name__ == "__main__":
    unittest.main()
