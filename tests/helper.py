"""What the tests share: calls in numbers, answers taken apart, and a model by definition."""

from brokenstrokes.counter import answers

UNDO = [2]
SURE = [7]
STATE = [11]
GREATEST = 4294967295

LIT_BY_DIGIT = (
    (0, 1, 2, 4, 5, 6),
    (2, 5),
    (0, 2, 3, 4, 6),
    (0, 2, 3, 5, 6),
    (1, 2, 3, 5),
    (0, 1, 3, 5, 6),
    (0, 1, 3, 4, 5, 6),
    (0, 2, 5),
    (0, 1, 2, 3, 4, 5, 6),
    (0, 1, 2, 3, 5, 6),
)


def begins(digits):
    return [0, digits]


def sees(seconds, lit):
    return [1, seconds, len(lit)] + list(lit)


def may(k):
    return [3, k]


def likely(k):
    return [4, k]


def guess(number):
    return [5, number]


def stroke_of(place, stroke):
    return [6, place, stroke]


def shows_next(seconds):
    return [8, seconds]


def apart(number, other, seconds):
    return [9, number, other, seconds]


def shown(number, seconds):
    return [10, number, seconds]


NOTHING_EXPLAINS = (sees(0, [0]), sees(0, [1]))

# The middle stroke goes from dark to lit and the others stay dark, as 1 goes on to 2 or 7 to 8: now is 1.
ONE_OR_SEVEN = (sees(0, [0]), sees(1, [8]))


def line_of(*calls):
    return [number for call in calls for number in call]


def taken_apart(told):
    """The answers in a line's answer, a list of numbers each."""
    found = []
    start = 0
    while start < len(told):
        end = start + 1 + told[start]
        if told[start] < 1 or end > len(told):
            raise ValueError(f"{told} is not told as the document says")
        found.append(told[start + 1:end])
        start = end
    return found


def ask(*calls):
    """The answers to these calls, a list of numbers each."""
    if not 1 <= len(calls) <= 80:
        raise ValueError(f"{len(calls)} calls, but a line has 1 to 80")
    found = taken_apart(answers(line_of(*calls)))
    if len(found) != len(calls):
        raise ValueError(f"{len(calls)} calls, but {len(found)} answers")
    return found


def last(*calls):
    """The answer to the last of these calls."""
    return ask(*calls)[-1]


def behind(ahead, *calls):
    """The answers to the calls behind those ahead."""
    return ask(*ahead, *calls)[len(ahead):]


def strokes_of(digit):
    return sum(2 ** stroke for stroke in LIT_BY_DIGIT[digit])


def healthy(count, digits):
    """What a counter without broken strokes shows, place by place."""
    return [strokes_of(int(sign)) for sign in str(count).zfill(digits)]


def how_many(broken):
    return sum(bin(strokes).count("1") for strokes in broken)


def one_of(numbers, k):
    return [1, numbers[k]] if k < len(numbers) else [0]


class Model:
    """What the sights, pairs of a time and a list, allow: by trying each state of each stroke."""

    def __init__(self, digits, sights):
        self.digits = digits
        self.sights = sights
        self.now = sights[-1][0] if sights else 0
        self.fitting = {}
        for number in range(10 ** digits):
            fitting = [[self.fitting_states(number, place, stroke) for stroke in range(7)] for place in range(digits)]
            if all(states for strokes in fitting for states in strokes):
                self.fitting[number] = fitting

    def should_light(self, number, time, place, stroke):
        """1 or 0: whether this stroke should be lit then if it begins with this number."""
        digit = int(str((number + time) % 10 ** self.digits).zfill(self.digits)[place])
        return int(stroke in LIT_BY_DIGIT[digit])

    def fitting_states(self, number, place, stroke):
        """The states by which this stroke is in each sight what it had to show."""
        pairs = [(self.should_light(number, time, place, stroke), (lit[place] >> stroke) & 1)
                 for time, lit in self.sights]
        return [state for state in range(3) if all((should, 0, 1)[state] == lit for should, lit in pairs)]

    def states(self, place, stroke):
        """The states that this stroke has in some explanation, rising."""
        return sorted({state for fitting in self.fitting.values() for state in fitting[place][stroke]})

    def views(self, number, time, place, stroke):
        """What this stroke may show then, 1 or 0, if it begins with this number."""
        should = self.should_light(number, time, place, stroke)
        return {(should, 0, 1)[state] for state in self.fitting[number][place][stroke]}

    def strokes_where(self, condition):
        """The strokes for which a condition on place and stroke holds, place by place."""
        return [sum(2 ** stroke for stroke in range(7) if condition(place, stroke)) for place in range(self.digits)]

    def least_broken(self, number):
        return self.strokes_where(lambda place, stroke: 0 not in self.fitting[number][place][stroke])

    def may(self, k):
        numbers = sorted(self.fitting)
        return [len(numbers)] + one_of(numbers, k)

    def likely(self, k):
        if not self.fitting:
            return [-6]
        breaks = {number: how_many(self.least_broken(number)) for number in sorted(self.fitting)}
        least = min(breaks.values())
        numbers = [number for number in breaks if breaks[number] == least]
        return [least, 1, len(numbers)] + one_of(numbers, k)

    def guess(self, number):
        if number not in self.fitting:
            return [-6]
        broken = self.least_broken(number)
        return [how_many(broken), len(broken)] + broken

    def stroke(self, place, stroke):
        if not self.fitting:
            return [-6]
        states = self.states(place, stroke)
        return [len(states), len(states)] + states

    def sure(self):
        if not self.fitting:
            return [-6]
        broken = self.strokes_where(lambda place, stroke: 0 not in self.states(place, stroke))
        works = self.strokes_where(lambda place, stroke: self.states(place, stroke) == [0])
        return [how_many(broken), self.digits] + broken + [self.digits] + works

    def next(self, seconds):
        if not self.fitting:
            return [-6]
        views = {(place, stroke): set().union(*[self.views(number, self.now + seconds, place, stroke)
                                                for number in self.fitting])
                 for place in range(self.digits) for stroke in range(7)}
        lit = self.strokes_where(lambda place, stroke: views[place, stroke] == {1})
        dark = self.strokes_where(lambda place, stroke: views[place, stroke] == {0})
        either = sum(view == {0, 1} for view in views.values())
        return [either, self.digits] + lit + [self.digits] + dark

    def apart(self, number, other, seconds):
        if number == other:
            return [-1]
        if number not in self.fitting or other not in self.fitting:
            return [-6]
        time = self.now + seconds
        return [int(any(not self.views(number, time, place, stroke) & self.views(other, time, place, stroke)
                        for place in range(self.digits) for stroke in range(7)))]

    def shown(self, number, seconds):
        count = (number + self.now + seconds) % 10 ** self.digits
        return [count, self.digits] + healthy(count, self.digits)

    def state(self):
        told = [part for time, lit in self.sights for part in [time] + lit]
        return [self.now, 1, self.digits, len(told)] + told
