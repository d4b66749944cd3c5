"""Promise 5: stroke and sure."""

import unittest

from tests.helper import (
    GREATEST, NOTHING_EXPLAINS, ONE_OR_SEVEN, SURE, UNDO, ask, begins, behind, healthy, last, sees, stroke_of
)

# The middle stroke goes from lit to dark, the others stay lit: 6 goes on to 7, or 9 to 0.
SIX_OR_NINE = (sees(0, [127]), sees(1, [119]))

# Three digits, 111 seconds apart, so that each place goes on like the one of ONE_OR_SEVEN.
ALL_PLACES = (begins(3), sees(0, [0, 0, 0]), sees(111, [8, 8, 8]))


def states_at(place, *ahead):
    """The states that each stroke of a place may have."""
    told = behind(ahead, *[stroke_of(place, stroke) for stroke in range(7)])
    if any(answer[0] != len(answer) - 2 or answer[0] != answer[1] for answer in told):
        raise ValueError(f"{told}: how many states and their list don't agree")
    return [answer[2:] for answer in told]


class StrokeTest(unittest.TestCase):
    def test_nothing_seen(self):
        for digits in (1, 2, 3):
            for place in range(digits):
                self.assertEqual(states_at(place, begins(digits)), [[0, 1, 2]] * 7)

    def test_how_the_states_are_told(self):
        self.assertEqual(ask(stroke_of(0, 6)), [[3, 3, 0, 1, 2]])
        self.assertEqual(ask(*ONE_OR_SEVEN, stroke_of(0, 3), stroke_of(0, 0), stroke_of(0, 1))[2:],
                         [[1, 1, 0], [1, 1, 1], [2, 2, 0, 1]])

    def test_one_sight_rules_out_the_other_broken_state(self):
        self.assertEqual(states_at(0, sees(0, [0])), [[0, 1]] * 7)
        self.assertEqual(states_at(0, sees(0, [127])), [[0, 2]] * 7)
        self.assertEqual(states_at(0, sees(0, [8])), [[0, 1]] * 3 + [[0, 2]] + [[0, 1]] * 3)

    def test_working_alone_and_never_lit_alone(self):
        # Only the left upper one is dark in both 1 and 2. All but the middle one should be lit in 8.
        self.assertEqual(states_at(0, *ONE_OR_SEVEN), [[1], [0, 1], [1], [0], [1], [1], [1]])

    def test_always_lit_alone(self):
        # The left lower one is dark in both 7 and 9. What's lit in both 9 and 0 works with these.
        self.assertEqual(states_at(0, *SIX_OR_NINE), [[0, 2], [0, 2], [0, 2], [0], [2], [0, 2], [0, 2]])

    def test_several_sights(self):
        seen = [sees(1, healthy(digit, 1)) for digit in range(8)]
        self.assertEqual(states_at(0, *seen[:2]), [[0], [0], [0, 2], [0, 1], [0], [0, 2], [0]])
        self.assertEqual(states_at(0, *seen), [[0]] * 7)

    def test_eight_sights_of_broken_strokes(self):
        # The top one is never lit, the bottom one always is; the right lower one is dark in 2 alone.
        seen = [sees(1, [(healthy(digit, 1)[0] | 64) & 126]) for digit in range(1, 9)]
        self.assertEqual(states_at(0, *seen), [[1], [0], [0], [0], [0], [0], [2]])

    def test_places_are_from_the_left(self):
        ahead = (begins(2), sees(0, [119, 0]), sees(1, [119, 8]))
        self.assertEqual(states_at(0, *ahead), [[0, 2]] * 3 + [[0, 1]] + [[0, 2]] * 3)
        self.assertEqual(states_at(1, *ahead), [[1], [0, 1], [1], [0], [1], [1], [1]])
        ahead = (begins(2), sees(0, [0, 119]), sees(10, [8, 119]))
        self.assertEqual(states_at(0, *ahead), [[1], [0, 1], [1], [0], [1], [1], [1]])
        self.assertEqual(states_at(1, *ahead), [[0, 2]] * 3 + [[0, 1]] + [[0, 2]] * 3)

    def test_three_places(self):
        for place in range(3):
            self.assertEqual(states_at(place, *ALL_PLACES), [[1], [0, 1], [1], [0], [1], [1], [1]])

    def test_no_such_place(self):
        for digits in (1, 2, 3):
            told = ask(begins(digits), stroke_of(digits - 1, 0), stroke_of(digits, 0), stroke_of(GREATEST, 0))
            self.assertEqual(told[1:], [[3, 3, 0, 1, 2], [-2], [-2]])

    def test_no_such_stroke(self):
        for digits in (1, 2, 3):
            told = ask(begins(digits), stroke_of(0, 6), stroke_of(0, 7), stroke_of(0, GREATEST))
            self.assertEqual(told[1:], [[3, 3, 0, 1, 2], [-2], [-2]])

    def test_a_place_that_is_with_a_stroke_that_is_not(self):
        self.assertEqual(ask(begins(2), stroke_of(1, 7), stroke_of(2, 6), stroke_of(2, 7), stroke_of(1, 6))[1:],
                         [[-2], [-2], [-2], [3, 3, 0, 1, 2]])

    def test_there_is_no_explanation(self):
        self.assertEqual(ask(*NOTHING_EXPLAINS, *[stroke_of(0, stroke) for stroke in range(7)])[2:], [[-6]] * 7)

    def test_of_both_refusals_minus_2_comes_first(self):
        told = ask(*NOTHING_EXPLAINS, stroke_of(0, 6), stroke_of(1, 0), stroke_of(0, 7), stroke_of(GREATEST, GREATEST))
        self.assertEqual(told[2:], [[-6], [-2], [-2], [-2]])

    def test_undo_lets_states_come_back(self):
        self.assertEqual(states_at(0, *ONE_OR_SEVEN, UNDO), [[0, 1]] * 7)
        self.assertEqual(states_at(0, *ONE_OR_SEVEN, UNDO, UNDO), [[0, 1, 2]] * 7)
        self.assertEqual(states_at(0, *NOTHING_EXPLAINS, UNDO), [[0, 1]] * 7)


class SureTest(unittest.TestCase):
    def test_nothing_is_sure_when_nothing_was_seen(self):
        self.assertEqual(ask(SURE), [[0, 1, 0, 1, 0]])
        self.assertEqual(last(begins(2), SURE), [0, 2, 0, 0, 2, 0, 0])
        self.assertEqual(last(begins(3), SURE), [0, 3, 0, 0, 0, 3, 0, 0, 0])

    def test_nothing_is_sure_after_one_sight(self):
        for lit in range(128):
            self.assertEqual(last(sees(0, [lit]), SURE), [0, 1, 0, 1, 0])

    def test_strokes_broken_in_all_and_working_in_all(self):
        # Of the left upper one nothing is sure.
        self.assertEqual(last(*ONE_OR_SEVEN, SURE), [5, 1, 117, 1, 8])

    def test_strokes_that_always_are_lit(self):
        # The left lower one is always lit, of the other five nothing is sure.
        self.assertEqual(last(*SIX_OR_NINE, SURE), [1, 1, 16, 1, 8])

    def test_strokes_never_lit_and_always_lit_are_told_together(self):
        seen = [sees(1, [(healthy(digit, 1)[0] | 64) & 126]) for digit in range(1, 9)]
        self.assertEqual(last(*seen, SURE), [2, 1, 65, 1, 62])

    def test_a_healthy_counter(self):
        seen = [sees(1, healthy(digit, 1)) for digit in range(8)]
        self.assertEqual(ask(*seen[:2], SURE)[2:], [[0, 1, 0, 1, 83]])
        self.assertEqual(ask(*seen, SURE)[8:], [[0, 1, 0, 1, 127]])

    def test_strokes_are_told_place_by_place(self):
        self.assertEqual(last(begins(2), sees(0, [119, 0]), sees(1, [119, 8]), SURE), [5, 2, 0, 117, 2, 0, 8])
        self.assertEqual(last(begins(2), sees(0, [0, 119]), sees(10, [8, 119]), SURE), [5, 2, 117, 0, 2, 8, 0])

    def test_broken_strokes_of_all_places_are_counted(self):
        self.assertEqual(last(*ALL_PLACES, SURE), [15, 3, 117, 117, 117, 3, 8, 8, 8])

    def test_there_is_no_explanation(self):
        self.assertEqual(ask(*NOTHING_EXPLAINS, SURE, UNDO, SURE, UNDO, SURE)[2:],
                         [[-6], [1], [0, 1, 0, 1, 0], [0], [0, 1, 0, 1, 0]])


if __name__ == "__main__":
    unittest.main()
