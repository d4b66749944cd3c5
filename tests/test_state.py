"""The call state: now, how many digits, and the sights with their times."""

import unittest

from tests.helper import STATE, UNDO, ask, begins, behind, last, sees, shown

THREE_SIGHTS = (begins(2), sees(3, [1, 2]), sees(0, [3, 4]), sees(10000, [127, 0]))


class StateTest(unittest.TestCase):
    def test_before_the_first_sight(self):
        self.assertEqual(ask(STATE), [[0, 1, 1, 0]])
        for digits in (1, 2, 3):
            self.assertEqual(last(begins(digits), STATE), [0, 1, digits, 0])

    def test_the_first_sight_is_so_many_seconds_behind_time_0(self):
        for seconds in (0, 1, 10, 9999, 10000):
            self.assertEqual(last(sees(seconds, [5]), STATE), [seconds, 1, 1, 2, seconds, 5])

    def test_sights_in_their_order_place_by_place(self):
        self.assertEqual(last(*THREE_SIGHTS, STATE), [10003, 1, 2, 9, 3, 1, 2, 3, 3, 4, 10003, 127, 0])
        self.assertEqual(last(begins(3), sees(7, [9, 8, 7]), sees(1, [0, 0, 64]), STATE),
                         [8, 1, 3, 8, 7, 9, 8, 7, 8, 0, 0, 64])

    def test_eight_sights(self):
        for digits in (1, 2, 3):
            told = last(begins(digits), *[sees(10000, [lit] * digits) for lit in range(8)], STATE)
            sights = [part for lit in range(8) for part in [10000 * (lit + 1)] + [lit] * digits]
            self.assertEqual(told, [80000, 1, digits, 8 + 8 * digits] + sights)

    def test_after_undo(self):
        told = behind(THREE_SIGHTS, UNDO, STATE, UNDO, STATE, UNDO, STATE, UNDO, STATE)
        self.assertEqual(told[1:5:2], [[3, 1, 2, 6, 3, 1, 2, 3, 3, 4], [3, 1, 2, 3, 3, 1, 2]])
        self.assertEqual(told[5::2], [[0, 1, 2, 0], [0, 1, 2, 0]])
        self.assertEqual(told[::2], [[2], [1], [0], [-4]])

    def test_a_sight_after_undo(self):
        told = last(*THREE_SIGHTS, UNDO, sees(6, [7, 8]), STATE)
        self.assertEqual(told, [9, 1, 2, 9, 3, 1, 2, 3, 3, 4, 9, 7, 8])
        self.assertEqual(last(sees(3, [1]), UNDO, sees(4, [2]), STATE), [4, 1, 1, 2, 4, 2])

    def test_after_a_refusal(self):
        before = last(*THREE_SIGHTS, STATE)
        for refused in (sees(10001, [1, 1]), sees(1, [128, 1]), sees(1, [1]), begins(0), begins(4)):
            self.assertEqual(behind(THREE_SIGHTS, refused, STATE), [[-1], before])
        eight = [sees(1, [lit]) for lit in range(8)]
        self.assertEqual(ask(*eight, STATE, sees(1, [9]), STATE)[8:], [last(*eight, STATE), [-5], last(*eight, STATE)])

    def test_after_begins(self):
        self.assertEqual(last(*THREE_SIGHTS, begins(2), STATE), [0, 1, 2, 0])
        self.assertEqual(last(*THREE_SIGHTS, begins(3), STATE), [0, 1, 3, 0])
        self.assertEqual(last(*THREE_SIGHTS, begins(1), sees(2, [6]), STATE), [2, 1, 1, 2, 2, 6])

    def test_without_explanation(self):
        self.assertEqual(last(sees(0, [0]), sees(0, [1]), STATE), [0, 1, 1, 4, 0, 0, 0, 1])

    def test_telling_it_changes_nothing(self):
        told = behind(THREE_SIGHTS, STATE, STATE, shown(5, 9), STATE)
        self.assertEqual([told[0], told[0]], [told[1], told[3]])


if __name__ == "__main__":
    unittest.main()
