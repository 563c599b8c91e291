"""The interface: how calls are handed in and answers given back, and what the function leaves alone."""

import ast
import contextlib
import io
import pathlib
import unittest

import bytemachines
from bytemachines.drawings import answers
from tests.lines import LineCase, drawing, make, one_before_last, opened, row, state, step, told

PACKAGE = pathlib.Path(bytemachines.__file__).parent


class AnswersTest(LineCase):
    def test_no_calls_no_answers(self):
        self.assertEqual(answers([]), [])

    def test_each_answer_stands_behind_its_count(self):
        calls = [1, 0, 2, 0, 0, 2, 0, 1, 3, 0, 0, 5, 9, 1, 5, 0, 0, 4, 0, 5, 0, 2]
        rows = [258, 0] + [1] * 256 + [1]
        self.assertEqual(answers(calls), [1, 0, 1, 0, 1, 1, 1, 0, 1, -4, 1, 3] + rows)

    def test_a_refusal_is_its_number_alone(self):
        self.assertEqual(answers([1, 1, 2, 1, 7, 3, 1, 0, 0, 0, 0, 5, 1, 0]), [1, 0, 1, -2, 1, -2, 1, -4])

    def test_numbers_and_lists_are_plain(self):
        numbers = answers(opened() + state(1) + step(0, 0, 255, 0) + make() + row(0))
        self.assertIs(type(numbers), list)
        self.assertEqual({type(number) for number in numbers}, {int})

    def test_what_is_handed_in_is_as_it_was(self):
        calls = [number for call in drawing(*one_before_last(3)) + [make(), row(2), row(99)] for number in call]
        kept = list(calls)
        answers(calls)
        self.assertEqual(calls, kept)

    def test_the_answer_is_a_new_list_each_time(self):
        first = answers([])
        first.append(5)
        self.assertEqual(answers([]), [])

    def test_nothing_is_kept_from_one_time_to_the_next(self):
        calls = opened() + state(1) + step(0, 3, 4, 0) + make() + row(0) + row(1)
        first = answers(calls)
        answers(opened() + opened(1) + state(0) + state(0, 1) + make() + make(1))
        self.assertEqual(answers(calls), first)
        self.assertEqual(told(opened(), row(0))[1], [-4])

    def test_it_prints_nothing(self):
        out = io.StringIO()
        with contextlib.redirect_stdout(out), contextlib.redirect_stderr(out):
            answers(opened() + state(9) + state(1) + make() + row(0) + row(1))
        self.assertEqual(out.getvalue(), "")

    def test_it_imports_nothing_but_its_own_files(self):
        for path in sorted(PACKAGE.rglob("*.py")):
            for node in ast.walk(ast.parse(path.read_text())):
                self.assertNotIsInstance(node, ast.Import, path)
                if isinstance(node, ast.ImportFrom):
                    self.assertTrue(node.module.startswith("bytemachines."), path)

    def test_the_longest_line_is_gone_through(self):
        calls = opened() + state(0) * 5332
        self.assertEqual(len(calls), 15998)
        numbers = answers(calls)
        self.assertEqual(len(numbers), 2 * 5333)
        self.assertEqual(numbers[-2:], [1, -1])


class TwoObjectsTest(LineCase):
    def test_they_do_not_touch_one_another(self):
        said = told(
            opened(0), opened(1), state(0, 0), state(1, 1), state(1, 1), state(1, 0), state(0, 1),
            step(0, 65, 65, 2, 1), step(0, 65, 65, 2, 0), step(0, 65, 65, 1, 0),
            make(1), row(0, 0), make(0), row(0, 1), row(0, 0),
        )
        self.assertEqual(said[2:7], [[0], [0], [1], [1], [2]])
        self.assertEqual(said[7:10], [[0], [-2], [0]])
        self.assertEqual(said[10:13], [[2], [-4], [3]])
        self.assertEqual(said[13], [0] + [1] * 256 + [1])
        self.assertEqual(said[14], [0] + [1] * 65 + [2] + [1] * 190 + [0])

    def test_a_change_of_one_leaves_the_machine_of_the_other(self):
        said = told(
            opened(0), opened(1), state(1, 0), state(1, 1), make(0), make(1),
            state(0, 0), step(0, 1, 2, 0, 0), row(0, 0), row(0, 1), opened(0), row(1, 1),
        )
        self.assertEqual(said[8], [-4])
        self.assertEqual(said[9], [0] + [1] * 256 + [1])
        self.assertEqual(said[11], [0] + [1] * 256 + [0])

    def test_each_has_its_own_counts(self):
        said = told(opened(0), opened(1), *[state(0, 0)] * 64, state(0, 0), state(0, 1))
        self.assertEqual(said[-2:], [[-1], [0]])


if __name__ == "__main__":
    unittest.main()
