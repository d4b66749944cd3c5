"""What the tests share: calls in numbers, answers taken apart, and a model by definition."""

from brokenstrokes.counter import answers

UNDO = [2]
GREATEST = 4294967295

LIT_BY_DIGIT = (
    (0, 1, 2, 4, 5, 6),
    (2, 5),
    (0, 2, 3, 4, 6),
    (0, 2, 3, 5, 6),
    (1, 2, 3, 5),
    (0, 1, 3, 5, 6),
    (0, 1, 3, 4, 5, 6),
    (0, 2, 5),
    (0, 1, 2, 3, 4, 5, 6),
    (0, 1, 2, 3, 5, 6),
)


def begins(digits):
    return [0, digits]


def sees(seconds, lit):
    return [1, seconds, len(lit)] + list(lit)


def may(k):
    return [3, k]


def likely(k):
    return [4, k]


def guess(number):
    return [5, number]


def line_of(*calls):
    return [number for call in calls for number in call]


def taken_apart(told):
    """The answers in a line's answer, a list of numbers each."""
    found = []
    start = 0
    while start < len(told):
        end = start + 1 + told[start]
        if told[start] < 1 or end > len(told):
            raise ValueError(f"{told} is not told as the document says")
        found.append(told[start + 1:end])
        start = end
    return found


def ask(*calls):
    """The answers to these calls, a list of numbers each."""
    found = taken_apart(answers(line_of(*calls)))
    if len(found) != len(calls):
        raise ValueError(f"{len(calls)} calls, but {len(found)} answers")
    return found


def last(*calls):
    """The answer to the last of these calls."""
    return ask(*calls)[-1]


def strokes_of(digit):
    return sum(2 ** stroke for stroke in LIT_BY_DIGIT[digit])


def healthy(count, digits):
    """What a counter without broken strokes shows, place by place."""
    return [strokes_of(int(sign)) for sign in str(count).zfill(digits)]


def shown_by(states, should):
    """What a place shows whose strokes have these states and should be lit as in this number."""
    lit = [((should >> stroke) & 1, 0, 1)[state] for stroke, state in enumerate(states)]
    return sum(2 ** stroke for stroke in range(7) if lit[stroke])


def how_many(broken):
    return sum(bin(strokes).count("1") for strokes in broken)


def one_of(numbers, k):
    return [1, numbers[k]] if k < len(numbers) else [0]


class Model:
    """What the sights, pairs of a time and a list, allow: by trying each state of each stroke."""

    def __init__(self, digits, sights):
        self.least_broken = {}
        for number in range(10 ** digits):
            should = [healthy((number + time) % 10 ** digits, digits) for time, lit in sights]
            lit = [lit for time, lit in sights]
            broken = [self.broken_at(place, should, lit) for place in range(digits)]
            if None not in broken:
                self.least_broken[number] = broken

    def broken_at(self, place, should, lit):
        """The strokes of a place that no fitting state lets work; None if a stroke has no such state."""
        broken = 0
        for stroke in range(7):
            pairs = [((a[place] >> stroke) & 1, (b[place] >> stroke) & 1) for a, b in zip(should, lit)]
            states = [state for state in range(3) if all((a, 0, 1)[state] == b for a, b in pairs)]
            if not states:
                return None
            broken += 2 ** stroke * (0 not in states)
        return broken

    def may(self, k):
        numbers = sorted(self.least_broken)
        return [len(numbers)] + one_of(numbers, k)

    def likely(self, k):
        if not self.least_broken:
            return [-6]
        least = min(how_many(broken) for broken in self.least_broken.values())
        numbers = [number for number in sorted(self.least_broken) if how_many(self.least_broken[number]) == least]
        return [least, 1, len(numbers)] + one_of(numbers, k)

    def guess(self, number):
        if number not in self.least_broken:
            return [-6]
        broken = self.least_broken[number]
        return [how_many(broken), len(broken)] + broken
