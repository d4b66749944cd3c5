"""The strokes of the digits, and pictures.

A place's strokes are a number below 128: the sum of 2 to the power i over them.
A picture is the strokes of all places as one number to the base 128, the
leftmost place first, so that one bit operation takes all places at once.
"""

STROKES = 7
ALL_STROKES = 127

# The strokes that each digit should light.
DIGIT_STROKES = (119, 36, 93, 109, 46, 107, 123, 37, 127, 111)

# How many numbers can be written with 0, 1, 2 and 3 digits.
HOW_MANY_NUMBERS = (1, 10, 100, 1000)


def picture_of(lit):
    """The picture of strokes that are given place by place."""
    picture = 0
    for strokes in lit:
        picture = picture * 128 + strokes
    return picture


def places_of(picture, digits):
    """The strokes of a picture, place by place."""
    lit = []
    rest = picture
    for place in range(digits):
        lit.append(rest % 128)
        rest = rest // 128
    lit.reverse()
    return lit


def whole_picture(digits):
    """The picture of all strokes of all places."""
    return picture_of([ALL_STROKES] * digits)


def stroke_alone(place, stroke, digits):
    """The picture of one stroke."""
    lit = [0] * digits
    lit[place] = 1 << stroke
    return picture_of(lit)


def should_light(count, digits):
    """The picture that a whole counter shows when it counts this."""
    text = str(count).zfill(digits)
    return picture_of([DIGIT_STROKES[int(digit)] for digit in text])


def all_pictures(digits):
    """What should be lit at each number that a counter can count."""
    return [should_light(count, digits) for count in range(HOW_MANY_NUMBERS[digits])]


def how_many_strokes(picture):
    """How many strokes a picture has."""
    found = 0
    rest = picture
    while rest > 0:
        found = found + rest % 2
        rest = rest // 2
    return found
