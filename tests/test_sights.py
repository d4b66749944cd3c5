"""Promise 1: begins, sees and undo."""

import unittest

from tests.helper import GREATEST, UNDO, ask, begins, healthy, last, likely, may, sees

# A counter of one digit that shows 0, and 1 a second later.
SHOWS_0 = sees(3, [119])
THEN_1 = sees(1, [36])


class BeginsTest(unittest.TestCase):
    def test_answers_how_many_numbers_there_are(self):
        self.assertEqual(ask(begins(1), begins(2), begins(3)), [[10], [100], [1000]])

    def test_refuses_what_is_not_1_to_3(self):
        self.assertEqual(ask(begins(0), begins(4), begins(GREATEST)), [[-1], [-1], [-1]])

    def test_a_line_starts_with_one_digit_and_nothing_seen(self):
        self.assertEqual(ask(may(9), may(10), UNDO), [[10, 1, 9], [10, 0], [-4]])
        self.assertEqual(last(sees(0, [1, 1])), [-1])
        self.assertEqual(last(sees(0, [1])), [10])

    def test_begins_makes_all_new_within_a_line(self):
        self.assertEqual(ask(SHOWS_0, THEN_1, begins(1), may(0), UNDO), [[10], [1], [10], [10, 1, 0], [-4]])
        self.assertEqual(last(begins(3), begins(2), sees(0, [1, 2])), [100])

    def test_begins_sets_back_the_time(self):
        self.assertEqual(last(SHOWS_0, begins(1), sees(2, [119]), likely(0)), [0, 1, 1, 1, 8])

    def test_begins_makes_room_for_eight_sights(self):
        eight = [sees(0, [1])] * 8
        self.assertEqual(ask(*eight, begins(1), *eight, sees(0, [1]))[8:], [[10]] * 9 + [[-5]])


class SeesTest(unittest.TestCase):
    def test_one_sight_rules_no_number_out(self):
        for lit in range(128):
            self.assertEqual(last(sees(0, [lit])), [10])

    def test_strokes_that_change_rule_numbers_out(self):
        self.assertEqual(ask(SHOWS_0, THEN_1, may(0)), [[10], [1], [1, 1, 7]])

    def test_the_first_sight_is_behind_time_0(self):
        for seconds in range(11):
            number = (10 - seconds) % 10
            self.assertEqual(last(sees(seconds, [119]), likely(0)), [0, 1, 1, 1, number])

    def test_each_sight_is_behind_the_one_ahead_of_it(self):
        told = last(begins(2), sees(5, healthy(20, 2)), sees(7, healthy(27, 2)), sees(11, healthy(38, 2)), likely(0))
        self.assertEqual(told, [0, 1, 1, 1, 15])

    def test_a_sight_at_the_same_time(self):
        self.assertEqual(ask(SHOWS_0, sees(0, [119]), THEN_1), [[10], [10], [1]])

    def test_passes_from_the_greatest_number_to_0(self):
        for digits in (1, 2, 3):
            greatest = 10 ** digits - 1
            told = ask(begins(digits), sees(0, healthy(greatest, digits)), sees(1, healthy(0, digits)), may(0))
            self.assertEqual(told[2:], [[1], [1, 1, greatest]])

    def test_passes_it_again_and_again(self):
        told = last(begins(2), sees(9999, healthy(11, 2)), sees(9998, healthy(9, 2)), likely(0))
        self.assertEqual(told, [0, 1, 1, 1, 12])

    def test_sights_that_nothing_explains(self):
        self.assertEqual(ask(sees(0, [0]), sees(0, [1]), sees(1, [1])), [[10], [0], [0]])
        # It's lit at 0 and dark ten seconds later, where it shows the same digit.
        self.assertEqual(ask(sees(0, [8]), sees(10, [0])), [[10], [0]])

    def test_seconds_up_to_10000(self):
        self.assertEqual(ask(sees(10000, [1]), sees(10001, [1]), sees(GREATEST, [1])), [[10], [-1], [-1]])
        self.assertEqual(last(sees(10000, [119]), sees(10000, [119]), likely(0)), [0, 1, 1, 1, 0])

    def test_strokes_up_to_127(self):
        for digits in (1, 2, 3):
            self.assertEqual(last(begins(digits), sees(0, [127] * digits)), [10 ** digits])
            for place in range(digits):
                for strokes in (128, 129, 255, GREATEST):
                    lit = [127] * digits
                    lit[place] = strokes
                    self.assertEqual(last(begins(digits), sees(0, lit)), [-1])

    def test_lists_of_another_length(self):
        for digits in (1, 2, 3):
            for wrong in (digits - 1, digits + 1, 0, 60):
                self.assertEqual(last(begins(digits), sees(0, [1] * wrong)), [-1])

    def test_eight_sights_and_no_ninth(self):
        self.assertEqual(ask(*[sees(10, [36])] * 9), [[10]] * 8 + [[-5]])
        told = ask(*[sees(10, [36])] * 9, UNDO, sees(10, [36]), sees(10, [36]))
        self.assertEqual(told[9:], [[7], [10], [-5]])

    def test_refused_sights_are_none_of_the_eight(self):
        refused = [sees(10001, [36]), sees(0, [128]), sees(0, [])]
        self.assertEqual(ask(*refused * 3, *[sees(10, [36])] * 8), [[-1]] * 9 + [[10]] * 8)

    def test_of_several_refusals_minus_1_comes_first(self):
        eight = [sees(1, [0])] * 8
        for late in (sees(10001, [0]), sees(1, [128]), sees(1, []), sees(1, [0, 0]), sees(10001, [128] * 60)):
            self.assertEqual(last(*eight, late), [-1])
        self.assertEqual(last(*eight, sees(10000, [127])), [-5])


class UndoTest(unittest.TestCase):
    def test_forgets_the_last_sight(self):
        told = ask(SHOWS_0, THEN_1, may(0), UNDO, may(0), likely(0), UNDO, likely(0), UNDO)
        self.assertEqual(told[2:], [[1, 1, 7], [1], [10, 1, 0], [0, 1, 1, 1, 7], [0], [0, 1, 10, 1, 0], [-4]])

    def test_now_is_the_time_of_the_sight_that_is_last_then(self):
        self.assertEqual(last(SHOWS_0, sees(5, [127]), UNDO, THEN_1, may(0)), [1, 1, 7])

    def test_now_is_0_when_none_is_left(self):
        self.assertEqual(last(SHOWS_0, UNDO, sees(2, [119]), likely(0)), [0, 1, 1, 1, 8])

    def test_lets_explanations_come_back(self):
        self.assertEqual(ask(sees(0, [0]), sees(0, [1]), UNDO, may(0)), [[10], [0], [1], [10, 1, 0]])

    def test_keeps_how_many_digits(self):
        self.assertEqual(ask(begins(2), sees(0, [1, 1]), UNDO, may(99), sees(0, [1])),
                         [[100], [100], [0], [100, 1, 99], [-1]])

    def test_forgets_eight_sights_one_by_one(self):
        told = ask(*[sees(1, [0])] * 8, *[UNDO] * 9)
        self.assertEqual(told[8:], [[7], [6], [5], [4], [3], [2], [1], [0], [-4]])


if __name__ == "__main__":
    unittest.main()
