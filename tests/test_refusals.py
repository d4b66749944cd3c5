"""After a refusal all is as it was."""

import unittest

from tests.helper import (
    GREATEST, NOTHING_EXPLAINS, ONE_OR_SEVEN, STATE, SURE, UNDO, apart, begins, behind, guess, likely, may, sees, shown,
    shows_next, stroke_of
)

# A counter of one digit that shows 0, and 1 a second later, so that it began with 7.
SHOWS_0 = sees(3, [119])
THEN_1 = sees(1, [36])

PROBES = (
    STATE, may(0), may(1), likely(0), guess(7), stroke_of(0, 3), SURE, shows_next(1), apart(1, 7, 2), shown(8, 3),
    sees(1, [93]), may(0), STATE, UNDO, UNDO, STATE, UNDO
)


class RefusedTest(unittest.TestCase):
    def assert_as_before(self, ahead, refused, code):
        told = behind(ahead, refused, *PROBES)
        self.assertEqual(told, [[code]] + behind(ahead, *PROBES))

    def test_sights_and_digits(self):
        for ahead in ((SHOWS_0, THEN_1), ONE_OR_SEVEN):
            for refused in (begins(0), begins(4), sees(10001, [127]), sees(2, [128]), sees(2, []), sees(2, [1, 1])):
                self.assert_as_before(ahead, refused, -1)

    def test_sights_and_digits_with_two_digits(self):
        for refused in (begins(0), begins(GREATEST), sees(5, [127]), sees(5, [36, 128])):
            self.assert_as_before((begins(2), sees(1, [119, 119])), refused, -1)

    def test_undo_with_nothing_seen(self):
        self.assert_as_before((), UNDO, -4)
        self.assert_as_before((begins(3),), UNDO, -4)

    def test_a_ninth_sight(self):
        self.assert_as_before([SHOWS_0] + [sees(10, [119])] * 7, sees(1, [36]), -5)

    def test_more_than_10000_seconds(self):
        for ahead in ((), ONE_OR_SEVEN, (SHOWS_0, THEN_1), NOTHING_EXPLAINS):
            for seconds in (10001, GREATEST):
                for refused in (shows_next(seconds), apart(1, 7, seconds), shown(7, seconds)):
                    self.assert_as_before(ahead, refused, -1)

    def test_both_the_same_number(self):
        for ahead in ((), ONE_OR_SEVEN, NOTHING_EXPLAINS):
            self.assert_as_before(ahead, apart(7, 7, 1), -1)

    def test_no_such_number_place_or_stroke(self):
        for ahead in ((), ONE_OR_SEVEN, NOTHING_EXPLAINS):
            for refused in (guess(10), stroke_of(1, 0), stroke_of(0, 7), stroke_of(GREATEST, GREATEST),
                            apart(10, 7, 1), apart(7, 10, 1), shown(10, 1)):
                self.assert_as_before(ahead, refused, -2)
        for refused in (guess(100), stroke_of(2, 0), apart(100, 7, 1), apart(7, 100, 1), shown(100, 1)):
            self.assert_as_before((begins(2), sees(1, [119, 119])), refused, -2)

    def test_a_number_without_explanation(self):
        for refused in (guess(8), apart(8, 7, 1), apart(7, 8, 1)):
            self.assert_as_before((SHOWS_0, THEN_1), refused, -6)
            self.assert_as_before(ONE_OR_SEVEN, refused, -6)

    def test_no_explanation(self):
        for refused in (likely(0), guess(0), stroke_of(0, 0), SURE, shows_next(1), apart(0, 1, 1)):
            self.assert_as_before(NOTHING_EXPLAINS, refused, -6)


if __name__ == "__main__":
    unittest.main()
