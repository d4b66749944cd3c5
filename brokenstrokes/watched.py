"""A counter that is looked at, and what each call about it answers.

Each call gives back its answer as a list of numbers. A refusal is its number
alone, and is given before anything is changed.
"""

from brokenstrokes.explanations import Explanations, count_at
from brokenstrokes.strokes import ALL_STROKES, STROKES, all_pictures
from brokenstrokes.strokes import how_many_strokes, picture_of, places_of, stroke_alone

MOST_DIGITS = 3
MOST_SECONDS = 10000
MOST_SIGHTS = 8


def answer_with(number, rows):
    """An answer: its number, then its lists, each behind how many numbers it has."""
    told = [number]
    for row in rows:
        told.append(len(row))
        told.extend(row)
    return told


def behind_others(numbers, k):
    """A list of the number that has k others before it, or of none."""
    return numbers[k:k + 1]


class WatchedCounter:
    """How many digits it has, the sights of it, and what explains them."""

    def __init__(self):
        self.make_new(1)

    def make_new(self, digits):
        """Forget all, and have so many digits."""
        self.digits = digits
        self.pictures = all_pictures(digits)
        self.sights = []
        self.explain()

    def explain(self):
        """Find anew what explains the sights, which have just changed."""
        self.explained = Explanations(self.sights, self.pictures, self.digits)

    def there_is(self, number):
        """Whether so many digits can write this number."""
        return number < len(self.pictures)

    def may_begin_with(self, number):
        """Whether there is an explanation with this number."""
        return number in self.explained.broken

    def how_many_numbers(self):
        """How many numbers it may begin with."""
        return len(self.explained.broken)

    def places(self, picture):
        """The strokes of a picture, place by place."""
        return places_of(picture, self.digits)

    def now(self):
        """The time of the last sight, 0 before the first."""
        if len(self.sights) == 0:
            return 0
        return self.sights[-1][0]

    def begins(self, digits):
        """Promise 1: make all new."""
        if digits < 1 or digits > MOST_DIGITS:
            return [-1]
        self.make_new(digits)
        return [self.how_many_numbers()]

    def can_be_seen(self, seconds, lit):
        """Whether a sight may be told like this."""
        if seconds > MOST_SECONDS or len(lit) != self.digits:
            return False
        return max(lit) <= ALL_STROKES

    def sees(self, seconds, lit):
        """Promise 1: take a sight more."""
        if not self.can_be_seen(seconds, lit):
            return [-1]
        if len(self.sights) == MOST_SIGHTS:
            return [-5]
        self.sights.append((self.now() + seconds, picture_of(lit)))
        self.explain()
        return [self.how_many_numbers()]

    def undo(self):
        """Promise 1: forget the last sight."""
        if len(self.sights) == 0:
            return [-4]
        self.sights.pop()
        self.explain()
        return [len(self.sights)]

    def may(self, k):
        """Promise 2: one of the numbers that it may begin with."""
        numbers = list(self.explained.broken)
        return answer_with(len(numbers), [behind_others(numbers, k)])

    def likely(self, k):
        """Promise 3: one of the numbers that break the fewest strokes."""
        if self.explained.has_none():
            return [-6]
        breaks = {}
        for number, broken in self.explained.broken.items():
            breaks[number] = how_many_strokes(broken)
        least = min(breaks.values())
        numbers = [number for number in breaks if breaks[number] == least]
        return answer_with(least, [[len(numbers)], behind_others(numbers, k)])

    def guess(self, number):
        """Promise 4: what is broken at the least if it begins with this number."""
        if not self.there_is(number):
            return [-2]
        if not self.may_begin_with(number):
            return [-6]
        broken = self.explained.broken[number]
        return answer_with(how_many_strokes(broken), [self.places(broken)])

    def states_of(self, place, stroke):
        """Promise 5, stroke: the states that it has in some explanation."""
        if place >= self.digits or stroke >= STROKES:
            return [-2]
        if self.explained.has_none():
            return [-6]
        states = self.explained.states(stroke_alone(place, stroke, self.digits))
        return answer_with(len(states), [states])

    def sure(self):
        """Promise 5, sure: the strokes that are broken in all explanations, and that work in all."""
        if self.explained.has_none():
            return [-6]
        broken = self.explained.surely_broken()
        return answer_with(how_many_strokes(broken), [self.places(broken), self.places(self.explained.working)])

    def will_show(self, seconds):
        """Promise 6, next: the strokes that will be lit in all explanations, and dark in all."""
        if seconds > MOST_SECONDS:
            return [-1]
        if self.explained.has_none():
            return [-6]
        lit = self.explained.can_be_lit(self.now() + seconds)
        dark = self.explained.can_be_dark(self.now() + seconds)
        either = lit & dark
        return answer_with(how_many_strokes(either), [self.places(lit ^ either), self.places(dark ^ either)])

    def apart(self, number, other, seconds):
        """Promise 7: whether a sight, whatever it is, tells two numbers apart."""
        if not self.there_is(number) or not self.there_is(other):
            return [-2]
        if seconds > MOST_SECONDS or number == other:
            return [-1]
        if not self.may_begin_with(number) or not self.may_begin_with(other):
            return [-6]
        return [int(self.explained.are_apart(number, other, self.now() + seconds))]

    def shown(self, number, seconds):
        """Promise 8: what it counts, and what should be lit then."""
        if not self.there_is(number):
            return [-2]
        if seconds > MOST_SECONDS:
            return [-1]
        count = count_at(self.now() + seconds, number, self.pictures)
        return answer_with(count, [self.places(self.pictures[count])])

    def state(self):
        """Now, how many digits, and all sights with their times."""
        told = []
        for time, lit in self.sights:
            told.append(time)
            told.extend(self.places(lit))
        return answer_with(self.now(), [[self.digits], told])
