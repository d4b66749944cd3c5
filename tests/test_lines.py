"""The interface: how a line of calls and its answers are told in numbers."""

import unittest

from brokenstrokes.counter import answers
from tests.helper import UNDO, ask, begins, guess, last, likely, line_of, may, sees

EVERY_CALL = line_of(begins(2), sees(3, [119, 119]), sees(1, [119, 36]), may(0), likely(0), guess(7), guess(1), UNDO)


class LineTest(unittest.TestCase):
    def test_an_answer_is_told_behind_how_many_numbers_it_has(self):
        self.assertEqual(answers([0, 2]), [1, 100])
        self.assertEqual(answers([1, 0, 1, 127]), [1, 10])
        self.assertEqual(answers([1, 0, 1, 127, 2]), [1, 10, 1, 0])
        self.assertEqual(answers([3, 4]), [3, 10, 1, 4])
        self.assertEqual(answers([3, 10]), [2, 10, 0])
        self.assertEqual(answers([4, 4]), [5, 0, 1, 10, 1, 4])
        self.assertEqual(answers([4, 10]), [4, 0, 1, 10, 0])
        self.assertEqual(answers([0, 3, 5, 4]), [1, 1000, 5, 0, 3, 0, 0, 0])

    def test_a_refusal_is_its_number_alone(self):
        self.assertEqual(answers([0, 0]), [1, -1])
        self.assertEqual(answers([1, 0, 0]), [1, -1])
        self.assertEqual(answers([2]), [1, -4])
        self.assertEqual(answers([5, 10]), [1, -2])
        self.assertEqual(answers([1, 0, 1, 0, 1, 0, 1, 1, 4, 0, 5, 0]), [1, 10, 1, 0, 1, -6, 1, -6])
        self.assertEqual(answers([1, 0, 1, 0] * 9), [1, 10] * 8 + [1, -5])

    def test_a_line_of_every_call(self):
        # At the right place only 0 and 1 can follow one another like this, at the left one anything is broken.
        seen = [1, 100, 1, 100, 1, 10]
        asked = [3, 10, 1, 7] + [5, 0, 1, 1, 1, 97] + [4, 4, 2, 83, 0] + [1, -6]
        self.assertEqual(answers(EVERY_CALL), seen + asked + [1, 1])

    def test_calls_go_on_behind_a_list_that_is_refused(self):
        for length in (0, 2, 3, 59, 60):
            self.assertEqual(ask(sees(0, [2] * length), may(3), UNDO), [[-1], [10, 1, 3], [-4]])

    def test_eighty_calls(self):
        told = ask(begins(3), *[may(999)] * 79)
        self.assertEqual(told, [[1000]] + [[1000, 1, 999]] * 79)

    def test_the_greatest_lists(self):
        self.assertEqual(ask(*[sees(4294967295, [4294967295] * 60)] * 80), [[-1]] * 80)

    def test_each_line_is_as_if_for_the_first_time(self):
        first = answers(EVERY_CALL)
        self.assertEqual(last(may(0)), [10, 1, 0])
        self.assertEqual(last(UNDO), [-4])
        self.assertEqual(last(sees(0, [119])), [10])
        self.assertEqual(last(sees(0, [119])), [10])
        self.assertEqual(answers(EVERY_CALL), first)

    def test_an_answer_belongs_to_its_caller(self):
        first = answers(EVERY_CALL)
        kept = list(first)
        first.clear()
        self.assertEqual(answers(EVERY_CALL), kept)

    def test_the_list_handed_in_stands_unchanged(self):
        calls = list(EVERY_CALL)
        answers(calls)
        self.assertEqual(calls, EVERY_CALL)

    def test_only_whole_numbers_are_answered(self):
        told = answers(EVERY_CALL)
        self.assertIs(type(told), list)
        self.assertEqual({type(number) for number in told}, {int})


if __name__ == "__main__":
    unittest.main()
