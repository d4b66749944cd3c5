"""What explains the sights of a counter.

A sight is a tuple: its time, and the picture of what is lit.
"""

from brokenstrokes.strokes import whole_picture


def lit_in_all(sights, whole):
    """The strokes that are lit in every sight."""
    found = whole
    for time, lit in sights:
        found = found & lit
    return found


def dark_in_all(sights, whole):
    """The strokes that are dark in every sight."""
    found = whole
    for time, lit in sights:
        found = found & (whole ^ lit)
    return found


def count_at(time, number, pictures):
    """What it counts at a time if it begins with this number."""
    return (number + time) % len(pictures)


def wrong_strokes(number, sights, pictures):
    """The strokes that some sight shows otherwise than they should be."""
    wrong = 0
    for time, lit in sights:
        wrong = wrong | (lit ^ pictures[count_at(time, number, pictures)])
    return wrong


def broken_by_number(sights, pictures, working):
    """Each number that it may begin with, rising, with the strokes broken at the least."""
    # A stroke that surely works has to be right in every sight. Any other one
    # can be broken, and must be just where it's wrong: these are the least.
    broken = {}
    for number in range(len(pictures)):
        wrong = wrong_strokes(number, sights, pictures)
        if (wrong & working) == 0:
            broken[number] = wrong
    return broken


class Explanations:
    """The numbers that it may begin with, and the states that its strokes may have."""

    # Strokes are free of one another: with each number a stroke may be never lit if
    # no sight shows it lit, always lit if none shows it dark, and may work if it's
    # not broken at the least. So surely only those work that were seen to change.

    def __init__(self, sights, pictures, digits):
        self.pictures = pictures
        self.whole = whole_picture(digits)
        self.always_lit = lit_in_all(sights, self.whole)
        self.never_lit = dark_in_all(sights, self.whole)
        self.working = self.whole ^ (self.always_lit | self.never_lit)
        self.broken = broken_by_number(sights, pictures, self.working)

    def has_none(self):
        """Whether nothing explains the sights."""
        return len(self.broken) == 0

    def surely_broken(self):
        """The strokes that are broken in all explanations."""
        found = self.whole
        for broken in self.broken.values():
            found = found & broken
        return found

    def states(self, stroke):
        """The states that one stroke, told as a picture, has in some explanation."""
        found = []
        if (self.surely_broken() & stroke) == 0:
            found.append(0)
        if (self.never_lit & stroke) != 0:
            found.append(1)
        if (self.always_lit & stroke) != 0:
            found.append(2)
        return found

    def should_show(self, number, time):
        """The picture that a whole one shows at a time if it begins with this number."""
        return self.pictures[count_at(time, number, self.pictures)]

    def can_be_lit(self, time):
        """The strokes that are lit at a time in some explanation."""
        found = self.always_lit
        for number, broken in self.broken.items():
            can_work = self.whole ^ broken
            found = found | (can_work & self.should_show(number, time))
        return found

    def can_be_dark(self, time):
        """The strokes that are dark at a time in some explanation."""
        found = self.never_lit
        for number, broken in self.broken.items():
            can_work = self.whole ^ broken
            found = found | (can_work & (self.whole ^ self.should_show(number, time)))
        return found

    def are_apart(self, number, other, time):
        """Whether each sight at a time leaves at most one of two numbers."""
        # A stroke that may be broken may be seen once more as it always was, which
        # leaves both. So only one that surely works can tell them apart.
        differing = self.should_show(number, time) ^ self.should_show(other, time)
        return (differing & self.working) != 0
