"""Which numbers a counter may begin with, and what is broken then.

A sight is a tuple: its time, and the picture of what is lit.
"""


def changing_strokes(sights):
    """The strokes that are lit in some sights and dark in others."""
    changing = 0
    for time, lit in sights:
        changing = changing | (lit ^ sights[0][1])
    return changing


def wrong_strokes(number, sights, pictures):
    """The strokes that some sight shows otherwise than they should be."""
    wrong = 0
    for time, lit in sights:
        wrong = wrong | (lit ^ pictures[(number + time) % len(pictures)])
    return wrong


def broken_by_number(sights, pictures):
    """Each number that it may begin with, rising, with the strokes broken at the least."""
    # A broken stroke never changes, so one that changes has to be right in every sight.
    # Any other one can be broken, and must be just where it's wrong: these are the least.
    changing = changing_strokes(sights)
    broken = {}
    for number in range(len(pictures)):
        wrong = wrong_strokes(number, sights, pictures)
        if (wrong & changing) == 0:
            broken[number] = wrong
    return broken
