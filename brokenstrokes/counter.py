"""A line of calls about one counter, told in numbers, and its answers."""

from brokenstrokes.watched import WatchedCounter

BEGINS = 0
SEES = 1
UNDO = 2
MAY = 3
LIKELY = 4
GUESS = 5
STROKE = 6
SURE = 7
NEXT = 8
APART = 9
SHOWN = 10
STATE = 11

# How many numbers stand behind each call's own number, ahead of its list if it has one.
HANDED_NUMBERS = (1, 1, 0, 1, 1, 1, 2, 0, 1, 3, 2, 0)


def end_of_call(calls, start):
    """Where the call behind the one at this start begins."""
    call = calls[start]
    end = start + 1 + HANDED_NUMBERS[call]
    if call == SEES:
        end = end + 1 + calls[end]
    return end


def answer_to(counter, call, handed):
    """The numbers that one call answers, which may change the counter."""
    if call == BEGINS:
        return counter.begins(handed[0])
    if call == SEES:
        return counter.sees(handed[0], handed[2:])
    if call == UNDO:
        return counter.undo()
    if call == MAY:
        return counter.may(handed[0])
    if call == LIKELY:
        return counter.likely(handed[0])
    if call == GUESS:
        return counter.guess(handed[0])
    if call == STROKE:
        return counter.states_of(handed[0], handed[1])
    if call == SURE:
        return counter.sure()
    if call == NEXT:
        return counter.will_show(handed[0])
    if call == APART:
        return counter.apart(handed[0], handed[1], handed[2])
    if call == SHOWN:
        return counter.shown(handed[0], handed[1])
    return counter.state()


def answers(calls):
    """The answers to a line of calls, each behind how many numbers it has."""
    counter = WatchedCounter()
    told = []
    start = 0
    while start < len(calls):
        end = end_of_call(calls, start)
        answer = answer_to(counter, calls[start], calls[start + 1:end])
        told.append(len(answer))
        told.extend(answer)
        start = end
    return told
