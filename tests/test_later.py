"""Promises 6 to 8: next, apart and shown."""

import unittest

from tests.helper import (
    GREATEST, NOTHING_EXPLAINS, ONE_OR_SEVEN, UNDO, apart, ask, begins, behind, guess, healthy, last, sees, shown,
    shows_next
)

# It begins with 7, and shows 1 now. Strokes 2 and 5 always were lit, 3 never was.
SEVEN = (sees(3, [119]), sees(1, [36]))


class NextTest(unittest.TestCase):
    def test_nothing_seen(self):
        self.assertEqual(ask(shows_next(0), shows_next(10000)), [[7, 1, 0, 1, 0]] * 2)
        self.assertEqual(last(begins(2), shows_next(5)), [14, 2, 0, 0, 2, 0, 0])
        self.assertEqual(last(begins(3), shows_next(5)), [21, 3, 0, 0, 0, 3, 0, 0, 0])

    def test_what_is_seen_now_is_shown_now(self):
        for lit in range(128):
            self.assertEqual(last(sees(7, [lit]), shows_next(0)), [0, 1, lit, 1, 127 - lit])

    def test_lit_by_all_dark_by_all_or_either(self):
        # It counts 2, where stroke 3 is lit unless it's broken, and 5 dark unless it's broken.
        self.assertEqual(last(*SEVEN, shows_next(1)), [2, 1, 85, 1, 2])
        # It counts 3, with which stroke 5 is lit however it is.
        self.assertEqual(last(*SEVEN, shows_next(2)), [1, 1, 101, 1, 18])

    def test_numbers_that_agree_and_that_do_not(self):
        # Stroke 3 works. It's lit in 2 and 8, in 3 and 9, in 4 but not in 0, and neither in 1 nor in 7.
        self.assertEqual(last(*ONE_OR_SEVEN, shows_next(0)), [0, 1, 8, 1, 119])
        self.assertEqual(last(*ONE_OR_SEVEN, shows_next(1)), [0, 1, 8, 1, 119])
        # With 1, stroke 1 may work, and should be lit in 4.
        self.assertEqual(last(*ONE_OR_SEVEN, shows_next(2)), [2, 1, 0, 1, 117])
        self.assertEqual(last(*ONE_OR_SEVEN, shows_next(9)), [0, 1, 0, 1, 127])

    def test_strokes_surely_broken_stay_as_they_are(self):
        seen = [sees(1, [(healthy(digit, 1)[0] | 64) & 126]) for digit in range(1, 9)]
        self.assertEqual(last(*seen, shows_next(1)), [0, 1, 110, 1, 17])
        self.assertEqual(last(*seen, shows_next(3)), [0, 1, 100, 1, 27])

    def test_places_are_from_the_left(self):
        self.assertEqual(last(begins(2), sees(0, [1, 64]), shows_next(0)), [0, 2, 1, 64, 2, 126, 63])
        # The right place changes to 8 or 2 and then to 9 or 3; any digit may stand at the left one.
        ahead = (begins(2), sees(0, [119, 0]), sees(1, [119, 8]))
        self.assertEqual(last(*ahead, shows_next(1)), [0, 2, 119, 8, 2, 8, 119])

    def test_strokes_that_may_be_either_are_counted_over_all_places(self):
        # The next digit comes at the left place, whichever it is: what was dark may be lit then, and what was lit dark.
        ahead = (begins(2), sees(0, [119, 0]), sees(1, [119, 8]))
        self.assertEqual(last(*ahead, shows_next(11)), [7, 2, 0, 8, 2, 0, 119])
        self.assertEqual(last(*ahead, shows_next(12)), [9, 2, 0, 0, 2, 0, 117])
        self.assertEqual(last(begins(3), sees(0, [0, 0, 0]), sees(111, [8, 8, 8]), shows_next(222)),
                         [6, 3, 0, 0, 0, 3, 117, 117, 117])

    def test_passes_from_the_greatest_number_to_0(self):
        for digits in (1, 2, 3):
            greatest = 10 ** digits - 1
            ahead = (begins(digits), sees(0, healthy(0, digits)), sees(greatest, healthy(greatest, digits)))
            told = behind(ahead, shows_next(0), shows_next(1))
            row = [digits]
            self.assertEqual(told[0], [0] + row + [111] * digits + row + [16] * digits)
            self.assertEqual(told[1], [0] + row + [119] * digits + row + [8] * digits)

    def test_seconds_up_to_10000(self):
        told = behind(SEVEN, *[shows_next(seconds) for seconds in (0, 10000, 10001, GREATEST, 9999)])
        # It counts 1, and at the last one 0, with which stroke 3 is dark and 2 and 5 are lit however they are.
        self.assertEqual(told, [[0, 1, 36, 1, 91], [0, 1, 36, 1, 91], [-1], [-1], [0, 1, 119, 1, 8]])

    def test_there_is_no_explanation(self):
        self.assertEqual(behind(NOTHING_EXPLAINS, shows_next(0), shows_next(10000)), [[-6], [-6]])

    def test_of_both_refusals_minus_1_comes_first(self):
        self.assertEqual(behind(NOTHING_EXPLAINS, shows_next(10001), shows_next(GREATEST)), [[-1], [-1]])

    def test_now_is_the_last_sight_that_is_not_forgotten(self):
        self.assertEqual(last(*SEVEN, sees(1, [93]), UNDO, shows_next(1)), [2, 1, 85, 1, 2])
        self.assertEqual(last(*NOTHING_EXPLAINS, UNDO, shows_next(0)), [0, 1, 0, 1, 127])


class ApartTest(unittest.TestCase):
    def test_nothing_seen_leaves_both(self):
        for digits in (1, 2, 3):
            greatest = 10 ** digits - 1
            told = ask(begins(digits), apart(0, 1, 0), apart(1, 8, 7), apart(greatest, 0, 10000))
            self.assertEqual(told[1:], [[0], [0], [0]])

    def test_after_one_sight_the_same_again_leaves_both(self):
        for lit in range(0, 128, 7):
            self.assertEqual(behind([sees(3, [lit])], apart(1, 8, 0), apart(0, 9, 5), apart(2, 3, 1)), [[0]] * 3)

    def test_a_stroke_that_works_parts_them(self):
        # Stroke 3 works: so they are apart where one number comes to 0, 1 or 7 and the other doesn't.
        told = behind(ONE_OR_SEVEN, *[apart(1, 7, seconds) for seconds in range(10)])
        self.assertEqual(told, [[0], [0], [1], [1], [0], [1], [0], [0], [1], [0]])
        self.assertEqual(behind(ONE_OR_SEVEN, *[apart(7, 1, seconds) for seconds in range(10)]), told)

    def test_sights_that_leave_both_and_that_do_not(self):
        # What apart tells of a second later and of two.
        both = behind(ONE_OR_SEVEN, sees(1, [8]), guess(1), guess(7), UNDO, sees(2, [0]), guess(1), guess(7))
        self.assertEqual([len(answer) > 1 for answer in both], [False, True, True, False, False, False, True])

    def test_another_place_may_part_them(self):
        # The right place tells 1 from 7 two seconds later, whatever stands at the left one.
        ahead = (begins(2), sees(0, [119, 0]), sees(1, [119, 8]))
        told = behind(ahead, apart(21, 27, 1), apart(21, 27, 2), apart(21, 51, 2), apart(21, 57, 1), apart(21, 57, 2))
        self.assertEqual(told, [[0], [1], [0], [0], [1]])
        ahead = (begins(2), sees(0, [0, 119]), sees(10, [8, 119]))
        told = behind(ahead, apart(12, 72, 10), apart(12, 72, 20), apart(12, 15, 20), apart(12, 75, 20))
        self.assertEqual(told, [[0], [1], [0], [1]])

    def test_three_digits(self):
        ahead = (begins(3), sees(0, [0, 0, 0]), sees(111, [8, 8, 8]))
        told = behind(ahead, apart(111, 117, 1), apart(111, 117, 2), apart(171, 111, 20), apart(777, 177, 200))
        self.assertEqual(told, [[0], [1], [1], [1]])

    def test_where_there_are_eight_sights(self):
        eight = ONE_OR_SEVEN + (sees(0, [8]),) * 6
        told = behind(eight, sees(0, [8]), *[apart(1, 7, seconds) for seconds in range(10)])
        self.assertEqual(told, [[-5], [0], [0], [1], [1], [0], [1], [0], [0], [1], [0]])

    def test_seconds_up_to_10000(self):
        told = behind(ONE_OR_SEVEN, *[apart(1, 7, seconds) for seconds in (9998, 9999, 10000, 10001, 10002, GREATEST)])
        self.assertEqual(told, [[1], [0], [0], [-1], [-1], [-1]])

    def test_both_the_same_number(self):
        self.assertEqual(ask(apart(0, 0, 0), apart(9, 9, 1), begins(3), apart(999, 999, 0)), [[-1], [-1], [1000], [-1]])
        self.assertEqual(behind(ONE_OR_SEVEN, apart(1, 1, 2), apart(7, 7, 2)), [[-1], [-1]])

    def test_no_such_number(self):
        for digits in (1, 2, 3):
            size = 10 ** digits
            told = ask(begins(digits), apart(size - 1, 0, 0), apart(0, size - 1, 0), apart(size, 0, 0),
                       apart(0, size, 0), apart(GREATEST, 0, 0), apart(0, GREATEST, 0), apart(size, size + 1, 0))
            self.assertEqual(told[1:], [[0], [0]] + [[-2]] * 5)

    def test_a_number_without_explanation(self):
        told = behind(ONE_OR_SEVEN, apart(0, 7, 2), apart(7, 0, 2), apart(1, 9, 0), apart(8, 1, 0), apart(2, 3, 0))
        self.assertEqual(told, [[-6]] * 5)
        self.assertEqual(behind(NOTHING_EXPLAINS, apart(0, 1, 0)), [[-6]])

    def test_which_of_several_refusals_is_told(self):
        self.assertEqual(behind(ONE_OR_SEVEN, apart(10, 10, 0), apart(10, 1, 10001), apart(1, 10, 10001),
                                apart(10, 0, 0), apart(0, 10, 0)), [[-2]] * 5)
        self.assertEqual(behind(ONE_OR_SEVEN, apart(0, 0, 0), apart(0, 1, 10001), apart(7, 9, 10001),
                                apart(2, 2, 10001)), [[-1]] * 4)


class ShownTest(unittest.TestCase):
    def test_nothing_seen(self):
        for digit in range(10):
            self.assertEqual(last(shown(digit, 0)), [digit, 1] + healthy(digit, 1))
        self.assertEqual(last(begins(2), shown(42, 17)), [59, 2, 107, 111])
        self.assertEqual(last(begins(3), shown(100, 23)), [123, 3, 36, 93, 109])

    def test_each_digit_should_light_its_strokes(self):
        told = ask(*[shown(0, seconds) for seconds in range(10)])
        self.assertEqual([answer[2] for answer in told], [119, 36, 93, 109, 46, 107, 123, 37, 127, 111])

    def test_zeros_in_front(self):
        self.assertEqual(last(begins(2), shown(0, 4)), [4, 2, 119, 46])
        self.assertEqual(ask(begins(3), shown(0, 0), shown(5, 2), shown(60, 2))[1:],
                         [[0, 3, 119, 119, 119], [7, 3, 119, 119, 37], [62, 3, 119, 123, 93]])

    def test_passes_from_the_greatest_number_to_0(self):
        for digits in (1, 2, 3):
            greatest = 10 ** digits - 1
            told = ask(begins(digits), shown(greatest, 0), shown(greatest, 1), shown(greatest, 2))
            self.assertEqual(told[1:], [[count, digits] + healthy(count, digits) for count in (greatest, 0, 1)])

    def test_seconds_are_behind_the_last_sight(self):
        self.assertEqual(behind(SEVEN, shown(7, 0), shown(7, 4)), [[1, 1, 36], [5, 1, 107]])
        self.assertEqual(behind([*SEVEN, UNDO], shown(7, 0)), [[0, 1, 119]])
        self.assertEqual(behind([*SEVEN, UNDO, UNDO], shown(7, 0)), [[7, 1, 37]])
        self.assertEqual(last(begins(3), sees(9998, [1, 2, 3]), sees(10000, [1, 2, 3]), shown(7, 3)),
                         [8, 3, 119, 119, 127])

    def test_broken_strokes_do_not_matter(self):
        self.assertEqual(last(sees(0, [0]), shown(8, 0)), [8, 1, 127])

    def test_numbers_that_it_may_not_begin_with(self):
        told = behind(SEVEN, *[guess(number) for number in (0, 6, 9)], *[shown(number, 0) for number in (0, 6, 9)])
        self.assertEqual(told, [[-6]] * 3 + [[4, 1, 46], [0, 1, 119], [3, 1, 109]])
        self.assertEqual(last(*NOTHING_EXPLAINS, shown(3, 1)), [4, 1, 46])

    def test_seconds_up_to_10000(self):
        told = behind([begins(3)], *[shown(77, seconds) for seconds in (9999, 10000, 10001, GREATEST)])
        self.assertEqual(told, [[76, 3, 119, 37, 123], [77, 3, 119, 37, 37], [-1], [-1]])

    def test_no_such_number(self):
        for digits in (1, 2, 3):
            size = 10 ** digits
            told = ask(begins(digits), shown(size - 1, 0), shown(size, 0), shown(GREATEST, 0))
            self.assertEqual(told[1:], [[size - 1, digits] + [111] * digits, [-2], [-2]])

    def test_of_both_refusals_minus_2_comes_first(self):
        self.assertEqual(ask(shown(10, 10001), shown(GREATEST, GREATEST), shown(9, 10001)), [[-2], [-2], [-1]])


if __name__ == "__main__":
    unittest.main()
