"""Promises 1 to 4 held against a model that tries every state of every stroke."""

import unittest

from tests.helper import Model, UNDO, ask, begins, guess, healthy, last, likely, may, sees


class Sequence:
    """Numbers without a plain pattern, the same ones each time."""

    def __init__(self, start):
        self.value = start

    def below(self, end):
        self.value = (self.value * 6364136223846793005 + 1442695040888963407) % 2 ** 64
        return (self.value >> 33) % end


def broken_counter(sequence, digits):
    """Strokes of each place that always are lit, and such that never are."""
    always = [sequence.below(128) & sequence.below(128) & sequence.below(128) for place in range(digits)]
    never = [sequence.below(128) & sequence.below(128) & ~lit for lit in always]
    return always, never


def sights_of(sequence, digits, number, many):
    """Pairs of how many seconds and what's lit on a counter that begins with this number."""
    always, never = broken_counter(sequence, digits)
    now = 0
    found = []
    for sight in range(many):
        seconds = sequence.below((3, 12, 120, 10001)[sequence.below(4)])
        now += seconds
        should = healthy((number + now) % 10 ** digits, digits)
        found.append((seconds, [(a | b) & ~c for a, b, c in zip(should, always, never)]))
    return found


def with_times(pairs):
    """Sights at their times."""
    now = 0
    found = []
    for seconds, lit in pairs:
        now += seconds
        found.append((now, lit))
    return found


class ModelTest(unittest.TestCase):
    def assert_as_the_model(self, digits, pairs, numbers):
        model = Model(digits, with_times(pairs))
        size = len(model.least_broken)
        ks = sorted({0, 1, size // 2, max(size - 1, 0), size, size + 1})
        ahead = [begins(digits)] + [sees(seconds, lit) for seconds, lit in pairs]
        probes = [may(k) for k in ks] + [likely(k) for k in ks] + [guess(number) for number in numbers]
        told = ask(*ahead, *probes)
        self.assertEqual(told[len(pairs)], [size if pairs else 10 ** digits])
        expected = [model.may(k) for k in ks] + [model.likely(k) for k in ks]
        expected += [model.guess(number) for number in numbers]
        self.assertEqual(told[len(ahead):], expected)
        return model

    def test_counters_of_one_digit(self):
        sequence = Sequence(1)
        for turn in range(120):
            number = sequence.below(10)
            pairs = sights_of(sequence, 1, number, turn % 9)
            model = self.assert_as_the_model(1, pairs, range(10))
            self.assertIn(number, model.least_broken)

    def test_counters_of_two_digits(self):
        sequence = Sequence(2)
        for turn in range(36):
            number = sequence.below(100)
            pairs = sights_of(sequence, 2, number, turn % 9)
            model = self.assert_as_the_model(2, pairs, [number] + list(range(0, 100, 3)))
            self.assertIn(number, model.least_broken)

    def test_counters_of_three_digits(self):
        sequence = Sequence(3)
        for turn in range(9):
            number = sequence.below(1000)
            pairs = sights_of(sequence, 3, number, turn)
            model = self.assert_as_the_model(3, pairs, [number] + list(range(0, 1000, 23)))
            self.assertIn(number, model.least_broken)

    def test_sights_of_no_counter(self):
        sequence = Sequence(4)
        unexplained = 0
        for turn in range(120):
            digits = 1 + turn % 2
            pairs = [(sequence.below(4), [127 ^ (1 << sequence.below(7)) for place in range(digits)])
                     for sight in range(turn % 4)]
            model = self.assert_as_the_model(digits, pairs, range(10))
            unexplained += not model.least_broken
        self.assertTrue(20 < unexplained < 100, unexplained)

    def test_every_two_sights_of_one_place(self):
        for first in range(0, 128, 5):
            for second in range(0, 128, 3):
                self.assert_as_the_model(1, [(0, [first]), (1, [second])], range(10))

    def test_undo_goes_back_through_all_sights(self):
        sequence = Sequence(5)
        pairs = sights_of(sequence, 2, 95, 8)
        ahead = [begins(2)] + [sees(seconds, lit) for seconds, lit in pairs]
        for left in range(8, -1, -1):
            told = ask(*ahead, *[UNDO] * (8 - left), likely(0), sees(7, [36, 119]), may(0))
            model = Model(2, with_times(pairs[:left]))
            self.assertEqual(told[-3], model.likely(0))
            if left < 8:
                more = Model(2, with_times(pairs[:left] + [(7, [36, 119])]))
                self.assertEqual(told[-1], more.may(0))

    def test_refused_sights_change_nothing(self):
        sequence = Sequence(6)
        pairs = sights_of(sequence, 2, 8, 5)
        line = [begins(2)]
        for seconds, lit in pairs:
            line += [sees(seconds + 10001, lit), sees(seconds, lit + [0]), sees(seconds, [128, 0]), begins(0)]
            line.append(sees(seconds, lit))
        self.assertEqual(last(*line, likely(0)), Model(2, with_times(pairs)).likely(0))


if __name__ == "__main__":
    unittest.main()
