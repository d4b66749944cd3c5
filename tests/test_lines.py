"""The interface: how a line of calls and its answers are told in numbers."""

import ast
import contextlib
import io
import pathlib
import unittest

import brokenstrokes
from brokenstrokes.counter import answers
from tests.helper import (
    GREATEST, STATE, SURE, UNDO, apart, ask, begins, guess, last, likely, line_of, may, sees, shown, shows_next,
    stroke_of
)

SIGHTS = (begins(2), sees(3, [119, 119]), sees(1, [119, 36]))
QUESTIONS = (
    may(0), likely(0), guess(7), guess(1), stroke_of(1, 0), SURE, shows_next(1), apart(7, 97, 6), shown(96, 0), STATE
)
EVERY_CALL = line_of(*SIGHTS, *QUESTIONS, UNDO)

# Eighty calls, each of the twelve among them.
EIGHTY_CALLS = EVERY_CALL * 5 + line_of(*SIGHTS, *QUESTIONS[:7])


class FixedList(list):
    """A list that fails when it is changed."""

    def fail(self, *handed, **named):
        raise AssertionError("the list handed in is changed")

    append = extend = insert = pop = remove = clear = sort = reverse = fail
    __setitem__ = __delitem__ = __iadd__ = __imul__ = fail


class LineTest(unittest.TestCase):
    def test_an_answer_is_told_behind_how_many_numbers_it_has(self):
        self.assertEqual(answers([0, 2]), [1, 100])
        self.assertEqual(answers([1, 0, 1, 127]), [1, 10])
        self.assertEqual(answers([1, 0, 1, 127, 2]), [1, 10, 1, 0])
        self.assertEqual(answers([3, 4]), [3, 10, 1, 4])
        self.assertEqual(answers([3, 10]), [2, 10, 0])
        self.assertEqual(answers([4, 4]), [5, 0, 1, 10, 1, 4])
        self.assertEqual(answers([4, 10]), [4, 0, 1, 10, 0])
        self.assertEqual(answers([0, 3, 5, 4]), [1, 1000, 5, 0, 3, 0, 0, 0])
        self.assertEqual(answers([6, 0, 6]), [5, 3, 3, 0, 1, 2])
        self.assertEqual(answers([0, 2, 7]), [1, 100, 7, 0, 2, 0, 0, 2, 0, 0])
        self.assertEqual(answers([8, 10000]), [5, 7, 1, 0, 1, 0])
        self.assertEqual(answers([9, 3, 4, 5]), [1, 0])
        self.assertEqual(answers([0, 3, 10, 3, 5]), [1, 1000, 5, 8, 3, 119, 119, 127])
        self.assertEqual(answers([11]), [4, 0, 1, 1, 0])
        self.assertEqual(answers([1, 4, 1, 9, 11]), [1, 10, 6, 4, 1, 1, 2, 4, 9])

    def test_a_refusal_is_its_number_alone(self):
        self.assertEqual(answers([0, 0]), [1, -1])
        self.assertEqual(answers([1, 0, 0]), [1, -1])
        self.assertEqual(answers([2]), [1, -4])
        self.assertEqual(answers([5, 10]), [1, -2])
        self.assertEqual(answers([6, 1, 7, 8, 10001, 9, 10, 1, 0, 9, 1, 1, 0, 10, 10, 0, 10, 0, 10001]),
                         [1, -2, 1, -1, 1, -2, 1, -1, 1, -2, 1, -1])
        nothing_explains = [1, 0, 1, 0, 1, 0, 1, 1]
        self.assertEqual(answers(nothing_explains + [4, 0, 5, 0, 6, 0, 0, 7, 8, 0, 9, 0, 1, 0]),
                         [1, 10, 1, 0] + [1, -6] * 6)
        self.assertEqual(answers([1, 0, 1, 0] * 9), [1, 10] * 8 + [1, -5])

    def test_a_line_of_every_call(self):
        # At the right place only 0 and 1 can follow one another like this, at the left one anything is broken.
        seen = [1, 100, 1, 100, 1, 10]
        numbers = [3, 10, 1, 7] + [5, 0, 1, 1, 1, 97] + [4, 4, 2, 83, 0] + [1, -6]
        strokes = [3, 1, 1, 0] + [7, 0, 2, 0, 0, 2, 0, 83]
        later = [7, 2, 2, 119, 85, 2, 8, 2] + [1, 0] + [4, 0, 2, 119, 119]
        state = [10, 4, 1, 2, 6, 3, 119, 119, 4, 119, 36]
        self.assertEqual(answers(EVERY_CALL), seen + numbers + strokes + later + state + [1, 1])

    def test_calls_go_on_behind_a_list_that_is_refused(self):
        for length in (0, 2, 3, 59, 60):
            self.assertEqual(ask(sees(0, [2] * length), may(3), UNDO), [[-1], [10, 1, 3], [-4]])

    def test_eighty_calls(self):
        told = ask(begins(3), *[may(999)] * 79)
        self.assertEqual(told, [[1000]] + [[1000, 1, 999]] * 79)

    def test_eighty_calls_of_all_kinds(self):
        told = answers(EVERY_CALL)
        self.assertEqual(answers(EIGHTY_CALLS), told * 5 + answers(line_of(*SIGHTS, *QUESTIONS[:7])))

    def test_the_greatest_numbers(self):
        self.assertEqual(ask(*[sees(GREATEST, [GREATEST] * 60)] * 80), [[-1]] * 80)
        told = ask(begins(GREATEST), may(GREATEST), likely(GREATEST), guess(GREATEST), stroke_of(GREATEST, GREATEST),
                   shows_next(GREATEST), apart(GREATEST, GREATEST, GREATEST), shown(GREATEST, GREATEST))
        self.assertEqual(told, [[-1], [10, 0], [0, 1, 10, 0], [-2], [-2], [-1], [-2], [-2]])

    def test_each_line_is_as_if_for_the_first_time(self):
        for line in (EVERY_CALL, EIGHTY_CALLS):
            first = answers(line)
            self.assertEqual(last(may(0)), [10, 1, 0])
            self.assertEqual(last(UNDO), [-4])
            self.assertEqual(last(STATE), [0, 1, 1, 0])
            self.assertEqual(last(SURE), [0, 1, 0, 1, 0])
            self.assertEqual(last(sees(0, [119])), [10])
            self.assertEqual(last(sees(0, [119])), [10])
            self.assertEqual(answers(line), first)

    def test_an_answer_belongs_to_its_caller(self):
        first = answers(EVERY_CALL)
        kept = list(first)
        first.clear()
        self.assertEqual(answers(EVERY_CALL), kept)

    def test_the_list_handed_in_stands_unchanged(self):
        for line in (EVERY_CALL, EIGHTY_CALLS):
            calls = list(line)
            answers(calls)
            self.assertEqual(calls, line)

    def test_the_list_handed_in_is_not_changed_for_a_while_either(self):
        self.assertEqual(answers(FixedList(EIGHTY_CALLS)), answers(EIGHTY_CALLS))

    def test_only_whole_numbers_are_answered(self):
        told = answers(EIGHTY_CALLS)
        self.assertIs(type(told), list)
        self.assertEqual({type(number) for number in told}, {int})

    def test_nothing_is_printed(self):
        printed = io.StringIO()
        with contextlib.redirect_stdout(printed), contextlib.redirect_stderr(printed):
            answers(EIGHTY_CALLS)
        self.assertEqual(printed.getvalue(), "")

    def test_nothing_but_the_package_itself_is_imported(self):
        files = sorted(pathlib.Path(brokenstrokes.__file__).parent.glob("*.py"))
        rows = [row for file in files for row in ast.walk(ast.parse(file.read_text(encoding="utf-8")))]
        self.assertFalse([row for row in rows if isinstance(row, ast.Import)])
        drawn_from = {row.module.split(".")[0] for row in rows if isinstance(row, ast.ImportFrom)}
        self.assertEqual(drawn_from, {"brokenstrokes"})


if __name__ == "__main__":
    unittest.main()
