"""Promises 2 to 4: may, likely and guess."""

import unittest

from tests.helper import (
    GREATEST, NOTHING_EXPLAINS, UNDO, ask, begins, guess, healthy, last, likely, may, sees, strokes_of
)


class MayTest(unittest.TestCase):
    def test_tells_all_numbers_rising_when_nothing_was_seen(self):
        for digits in (1, 2, 3):
            size = 10 ** digits
            for k in (0, 1, size - 2, size - 1):
                self.assertEqual(last(begins(digits), may(k)), [size, 1, k])

    def test_a_k_beyond_them_has_no_number(self):
        for digits in (1, 2, 3):
            for k in (10 ** digits, 10 ** digits + 1, GREATEST):
                self.assertEqual(last(begins(digits), may(k)), [10 ** digits, 0])

    def test_tells_just_those_with_an_explanation(self):
        # Stroke 3 is dark, then lit: it works. So it counts 0, 1 or 7, and none of these a second later.
        ahead = (sees(0, [0]), sees(1, [8]))
        told = ask(*ahead, may(0), may(1), may(2), may(GREATEST))
        self.assertEqual(told[1:], [[2], [2, 1, 1], [2, 1, 7], [2, 0], [2, 0]])

    def test_a_stroke_that_works_is_right_in_every_sight(self):
        # Stroke 3 is lit twice more: so it counts 1, 2, 3, 4, as 7, 8, 9 goes on to 0.
        ahead = (sees(0, [0]), sees(1, [8]), sees(1, [8]), sees(1, [8]))
        self.assertEqual(ask(*ahead, may(0), may(1))[3:], [[1], [1, 1, 1], [1, 0]])

    def test_nothing_explains_the_sights(self):
        self.assertEqual(ask(*NOTHING_EXPLAINS, may(0), may(GREATEST))[2:], [[0, 0], [0, 0]])

    def test_numbers_of_two_places(self):
        # Stroke 3 goes from dark to lit at both places. The right one goes from 1 to 2 or
        # from 7 to 8 then, and the left one stands still: nothing explains it.
        ahead = (begins(2), sees(0, [0, 0]), sees(1, [8, 8]))
        self.assertEqual(ask(*ahead, may(0))[2:], [[0], [0, 0]])
        # Ten seconds later the left place alone is another.
        told = ask(begins(2), sees(0, [0, 119]), sees(10, [8, 119]), may(0), may(9), may(10), may(19), may(20))
        self.assertEqual(told[2:], [[20], [20, 1, 10], [20, 1, 19], [20, 1, 70], [20, 1, 79], [20, 0]])


class LikelyTest(unittest.TestCase):
    def test_nothing_seen(self):
        self.assertEqual(ask(likely(0), likely(9), likely(10)), [[0, 1, 10, 1, 0], [0, 1, 10, 1, 9], [0, 1, 10, 0]])
        self.assertEqual(ask(begins(3), likely(999), likely(1000))[1:], [[0, 1, 1000, 1, 999], [0, 1, 1000, 0]])

    def test_working_strokes(self):
        for digits, number in ((1, 4), (2, 7), (2, 60), (3, 123), (3, 5)):
            told = ask(begins(digits), sees(0, healthy(number, digits)), likely(0), likely(1))
            self.assertEqual(told[2:], [[0, 1, 1, 1, number], [0, 1, 1, 0]])

    def test_broken_strokes(self):
        # Nothing is lit: 1 has the fewest strokes. Only the top one is lit: so it is with 7.
        self.assertEqual(last(sees(0, [0]), likely(0)), [2, 1, 1, 1, 1])
        self.assertEqual(last(sees(0, [1]), likely(0)), [2, 1, 1, 1, 7])

    def test_several_break_as_few(self):
        # Only the middle one is lit: both 1 and 4 break three strokes.
        told = ask(sees(0, [8]), likely(0), likely(1), likely(2), likely(GREATEST))
        self.assertEqual(told[1:], [[3, 1, 2, 1, 1], [3, 1, 2, 1, 4], [3, 1, 2, 0], [3, 1, 2, 0]])

    def test_strokes_of_all_places_are_added(self):
        told = ask(begins(3), sees(0, [8, 119, 8]), *[likely(k) for k in range(5)])[2:]
        self.assertEqual(told[:4], [[6, 1, 4, 1, number] for number in (101, 104, 401, 404)])
        self.assertEqual(told[4], [6, 1, 4, 0])

    def test_counts_a_stroke_once_however_many_sights(self):
        # The top one is never lit: it shows 1 for 7, and what would be 8 lacks it too.
        self.assertEqual(last(sees(0, [36]), sees(1, [126]), sees(1, [110]), likely(0)), [1, 1, 1, 1, 7])

    def test_strokes_that_different_sights_break_are_added(self):
        # Behind 8 come 9 and 0, which lack one stroke each; no other three lack as few.
        told = ask(sees(0, [127]), sees(1, [127]), sees(1, [127]), likely(0), likely(1))
        self.assertEqual(told[3:], [[2, 1, 1, 1, 8], [2, 1, 1, 0]])

    def test_it_is_refused_without_explanation(self):
        self.assertEqual(ask(*NOTHING_EXPLAINS, likely(0), likely(GREATEST))[2:], [[-6], [-6]])
        self.assertEqual(last(*NOTHING_EXPLAINS, UNDO, likely(0)), [2, 1, 1, 1, 1])


class GuessTest(unittest.TestCase):
    def test_nothing_seen_breaks_nothing(self):
        self.assertEqual(last(guess(9)), [0, 1, 0])
        self.assertEqual(last(begins(2), guess(99)), [0, 2, 0, 0])
        self.assertEqual(last(begins(3), guess(0)), [0, 3, 0, 0, 0])

    def test_each_digit_should_light_its_strokes(self):
        told = ask(sees(0, [0]), *[guess(digit) for digit in range(10)])[1:]
        self.assertEqual([answer[2] for answer in told], [119, 36, 93, 109, 46, 107, 123, 37, 127, 111])
        self.assertEqual([answer[0] for answer in told], [6, 2, 5, 5, 4, 5, 6, 3, 7, 6])
        self.assertEqual([answer[2] for answer in told], [strokes_of(digit) for digit in range(10)])

    def test_strokes_that_are_lit_and_should_not_be(self):
        self.assertEqual(ask(sees(0, [127]), guess(1), guess(8))[1:], [[5, 1, 91], [0, 1, 0]])

    def test_strokes_place_by_place_from_the_left(self):
        self.assertEqual(last(begins(2), sees(0, [119, 8]), guess(4)), [3, 2, 0, 38])
        self.assertEqual(last(begins(2), sees(0, [8, 119]), guess(40)), [3, 2, 38, 0])
        self.assertEqual(last(begins(3), sees(0, [36, 93, 109]), guess(999)), [8, 3, 75, 50, 2])

    def test_the_time_of_the_sight_counts(self):
        self.assertEqual(last(begins(2), sees(11, [119, 36]), guess(90)), [0, 2, 0, 0])
        # With 89 it shows 00 then, so that 1 for 0 at the right place lacks four strokes.
        self.assertEqual(last(begins(2), sees(11, [119, 36]), guess(89)), [4, 2, 0, 83])

    def test_several_sights_break_what_one_of_them_breaks(self):
        self.assertEqual(last(sees(0, [36]), sees(1, [126]), sees(1, [110]), guess(7)), [1, 1, 1])
        # The middle one is always lit, the bottom one never is: seen at 8, 9 and 0.
        self.assertEqual(last(sees(0, [63]), sees(1, [47]), sees(1, [63]), guess(8)), [2, 1, 72])

    def test_no_such_number(self):
        for digits in (1, 2, 3):
            size = 10 ** digits
            told = ask(begins(digits), guess(size - 1), guess(size), guess(GREATEST))
            self.assertEqual(told[1:], [[0, digits] + [0] * digits, [-2], [-2]])

    def test_a_number_without_explanation(self):
        told = ask(sees(0, [0]), sees(1, [8]), *[guess(number) for number in range(10)])[2:]
        self.assertEqual([answer == [-6] for answer in told], [number not in (1, 7) for number in range(10)])

    def test_of_both_refusals_minus_2_comes_first(self):
        self.assertEqual(ask(*NOTHING_EXPLAINS, guess(9), guess(10), guess(GREATEST))[2:], [[-6], [-2], [-2]])


if __name__ == "__main__":
    unittest.main()
