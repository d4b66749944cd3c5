"""A counter that is looked at, and what each call about it answers.

Each call gives back its answer as a list of numbers. A refusal is its number
alone, and is given before anything is changed.
"""

from brokenstrokes.explanations import broken_by_number
from brokenstrokes.strokes import all_pictures, how_many_strokes, picture_of, places_of

MOST_DIGITS = 3
MOST_SECONDS = 10000
ALL_STROKES = 127
MOST_SIGHTS = 8


def answer_with(number, rows):
    """An answer: its number, then its lists, each behind how many numbers it has."""
    told = [number]
    for row in rows:
        told.append(len(row))
        told.extend(row)
    return told


def behind_others(numbers, k):
    """A list of the number that has k others before it, or of none."""
    return numbers[k:k + 1]


class WatchedCounter:
    """How many digits it has, the sights of it, and what explains them."""

    def __init__(self):
        self.make_new(1)

    def make_new(self, digits):
        """Forget all, and have so many digits."""
        self.digits = digits
        self.pictures = all_pictures(digits)
        self.sights = []
        self.explain()

    def explain(self):
        """Find anew what explains the sights, which have just changed."""
        self.broken = broken_by_number(self.sights, self.pictures)

    def now(self):
        """The time of the last sight, 0 before the first."""
        if len(self.sights) == 0:
            return 0
        return self.sights[-1][0]

    def begins(self, digits):
        """Promise 1: make all new."""
        if digits < 1 or digits > MOST_DIGITS:
            return [-1]
        self.make_new(digits)
        return [len(self.broken)]

    def can_be_seen(self, seconds, lit):
        """Whether a sight may be told like this."""
        if seconds > MOST_SECONDS or len(lit) != self.digits:
            return False
        return max(lit) <= ALL_STROKES

    def sees(self, seconds, lit):
        """Promise 1: take a sight more."""
        if not self.can_be_seen(seconds, lit):
            return [-1]
        if len(self.sights) == MOST_SIGHTS:
            return [-5]
        self.sights.append((self.now() + seconds, picture_of(lit)))
        self.explain()
        return [len(self.broken)]

    def undo(self):
        """Promise 1: forget the last sight."""
        if len(self.sights) == 0:
            return [-4]
        self.sights.pop()
        self.explain()
        return [len(self.sights)]

    def may(self, k):
        """Promise 2: one of the numbers that it may begin with."""
        numbers = list(self.broken)
        return answer_with(len(numbers), [behind_others(numbers, k)])

    def likely(self, k):
        """Promise 3: one of the numbers that break the fewest strokes."""
        if len(self.broken) == 0:
            return [-6]
        breaks = {}
        for number, broken in self.broken.items():
            breaks[number] = how_many_strokes(broken)
        least = min(breaks.values())
        numbers = [number for number in breaks if breaks[number] == least]
        return answer_with(least, [[len(numbers)], behind_others(numbers, k)])

    def guess(self, number):
        """Promise 4: what is broken at the least if it begins with this number."""
        if number >= len(self.pictures):
            return [-2]
        if number not in self.broken:
            return [-6]
        broken = self.broken[number]
        return answer_with(how_many_strokes(broken), [places_of(broken, self.digits)])
