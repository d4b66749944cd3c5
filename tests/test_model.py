"""Promises 1 to 8 held against a model that tries every state of every stroke."""

import unittest

from tests.helper import (
    Model, STATE, SURE, UNDO, apart, ask, begins, behind, guess, healthy, last, likely, may, sees, shown, shows_next,
    stroke_of
)


class Sequence:
    """Numbers without a plain pattern, the same ones each time."""

    def __init__(self, start):
        self.value = start

    def below(self, end):
        self.value = (self.value * 6364136223846793005 + 1442695040888963407) % 2 ** 64
        return (self.value >> 33) % end


def broken_counter(sequence, digits):
    """Strokes of each place that always are lit, and such that never are."""
    always = [sequence.below(128) & sequence.below(128) & sequence.below(128) for place in range(digits)]
    never = [sequence.below(128) & sequence.below(128) & ~lit for lit in always]
    return always, never


def sights_of(sequence, digits, number, many):
    """Pairs of how many seconds and what's lit on a counter that begins with this number."""
    always, never = broken_counter(sequence, digits)
    now = 0
    found = []
    for sight in range(many):
        seconds = sequence.below((3, 12, 120, 10001)[sequence.below(4)])
        now += seconds
        should = healthy((number + now) % 10 ** digits, digits)
        found.append((seconds, [(a | b) & ~c for a, b, c in zip(should, always, never)]))
    return found


def with_times(pairs):
    """Sights at their times."""
    now = 0
    found = []
    for seconds, lit in pairs:
        now += seconds
        found.append((now, lit))
    return found


def line_ahead(digits, pairs):
    """The calls that have these sights seen."""
    return [begins(digits)] + [sees(seconds, lit) for seconds, lit in pairs]


class ModelTest(unittest.TestCase):
    def assert_as_the_model(self, digits, pairs, numbers):
        model = Model(digits, with_times(pairs))
        self.assert_numbers_as(model, pairs, numbers)
        self.assert_strokes_as(model, pairs)
        self.assert_later_as(model, pairs, numbers)
        return model

    def assert_numbers_as(self, model, pairs, numbers):
        """Promises 1 to 4."""
        size = len(model.fitting)
        ks = sorted({0, 1, size // 2, max(size - 1, 0), size, size + 1})
        ahead = line_ahead(model.digits, pairs)
        told = ask(*ahead, *[may(k) for k in ks], *[likely(k) for k in ks], *[guess(number) for number in numbers])
        self.assertEqual(told[len(pairs)], [size])
        expected = [model.may(k) for k in ks] + [model.likely(k) for k in ks]
        expected += [model.guess(number) for number in numbers]
        self.assertEqual(told[len(ahead):], expected)

    def assert_strokes_as(self, model, pairs):
        """Promise 5, and state."""
        strokes = [(place, stroke) for place in range(model.digits) for stroke in range(7)]
        told = behind(line_ahead(model.digits, pairs), SURE, STATE, *[stroke_of(*stroke) for stroke in strokes])
        expected = [model.stroke(*stroke) for stroke in strokes]
        self.assertEqual(told, [model.sure(), model.state()] + expected)
        # No sight is both, so a stroke that's broken in all explanations has one state in all of them.
        self.assertNotIn([2, 2, 1, 2], expected)

    def assert_later_as(self, model, pairs, numbers):
        """Promises 6 to 8."""
        waits = (0, 1, 9, 57, 9999, 10000)
        may_begin = sorted(model.fitting)
        some = may_begin[:3] + may_begin[-2:] + list(numbers)[:2]
        two = [(number, other, wait) for number in some for other in some for wait in (0, 1, 37)][:60]
        ahead = line_ahead(model.digits, pairs)
        told = behind(ahead, *[shows_next(wait) for wait in waits], *[shown(number, 83) for number in some])
        self.assertEqual(told, [model.next(wait) for wait in waits] + [model.shown(number, 83) for number in some])
        self.assertEqual(behind(ahead, *[apart(*three) for three in two]), [model.apart(*three) for three in two])

    def assert_apart_by_trying_each_sight(self, pairs, seconds):
        """Promise 7 for a counter of one digit, by its words."""
        sights = with_times(pairs)
        now = sights[-1][0] if sights else 0
        left = [Model(1, sights + [(now + seconds, [lit])]).fitting for lit in range(128)]
        may_begin = sorted(Model(1, sights).fitting)
        two = [(number, other) for number in may_begin for other in may_begin if number < other]
        told = behind(line_ahead(1, pairs), *[apart(number, other, seconds) for number, other in two])
        self.assertEqual(told, [[int(not any(number in numbers and other in numbers for numbers in left))]
                                for number, other in two])
        return told

    def test_counters_of_one_digit(self):
        sequence = Sequence(1)
        for turn in range(120):
            number = sequence.below(10)
            pairs = sights_of(sequence, 1, number, turn % 9)
            model = self.assert_as_the_model(1, pairs, range(10))
            self.assertIn(number, model.fitting)

    def test_counters_of_two_digits(self):
        sequence = Sequence(2)
        for turn in range(36):
            number = sequence.below(100)
            pairs = sights_of(sequence, 2, number, turn % 9)
            model = self.assert_as_the_model(2, pairs, [number] + list(range(0, 100, 3)))
            self.assertIn(number, model.fitting)

    def test_counters_of_three_digits(self):
        sequence = Sequence(3)
        for turn in range(9):
            number = sequence.below(1000)
            pairs = sights_of(sequence, 3, number, turn)
            model = self.assert_as_the_model(3, pairs, [number] + list(range(0, 1000, 23)))
            self.assertIn(number, model.fitting)

    def test_sights_of_no_counter(self):
        sequence = Sequence(4)
        unexplained = 0
        for turn in range(120):
            digits = 1 + turn % 2
            pairs = [(sequence.below(4), [127 ^ (1 << sequence.below(7)) for place in range(digits)])
                     for sight in range(turn % 4)]
            model = self.assert_as_the_model(digits, pairs, range(10))
            unexplained += not model.fitting
        self.assertTrue(20 < unexplained < 100, unexplained)

    def test_every_two_sights_of_one_place(self):
        for first in range(0, 128, 5):
            for second in range(0, 128, 3):
                self.assert_as_the_model(1, [(0, [first]), (1, [second])], range(10))

    def test_every_sight_that_may_come_tells_whether_two_are_apart(self):
        sequence = Sequence(7)
        told = []
        for turn in range(27):
            pairs = sights_of(sequence, 1, sequence.below(10), turn % 9)
            told += self.assert_apart_by_trying_each_sight(pairs, sequence.below(12))
        told += self.assert_apart_by_trying_each_sight([(0, [0]), (1, [8])], 1)
        told += self.assert_apart_by_trying_each_sight([(0, [0]), (1, [8])] + [(0, [8])] * 6, 2)
        self.assertIn([0], told)
        self.assertIn([1], told)

    def test_undo_goes_back_through_all_sights(self):
        sequence = Sequence(5)
        pairs = sights_of(sequence, 2, 95, 8)
        ahead = line_ahead(2, pairs)
        for left in range(8, -1, -1):
            told = ask(*ahead, *[UNDO] * (8 - left), likely(0), sees(7, [36, 119]), may(0))
            model = Model(2, with_times(pairs[:left]))
            self.assertEqual(told[-3], model.likely(0))
            if left < 8:
                more = Model(2, with_times(pairs[:left] + [(7, [36, 119])]))
                self.assertEqual(told[-1], more.may(0))

    def test_refused_sights_change_nothing(self):
        sequence = Sequence(6)
        pairs = sights_of(sequence, 2, 8, 5)
        line = [begins(2)]
        for seconds, lit in pairs:
            line += [sees(seconds + 10001, lit), sees(seconds, lit + [0]), sees(seconds, [128, 0]), begins(0)]
            line.append(sees(seconds, lit))
        self.assertEqual(last(*line, likely(0)), Model(2, with_times(pairs)).likely(0))


if __name__ == "__main__":
    unittest.main()
