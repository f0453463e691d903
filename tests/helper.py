"""Calls written as lists of whole numbers, and answers split again, for all tests."""

from turnedpipes.board import answers

START, TURN, HOLD, LET, AT, WET, LEAKS, LEAK, RINGS, RIGHT, PARTS, PART, WAY, COUNT = range(14)
MOST = 4294967295


def start(width, height, source, goes_round, text):
    # text: a str, or a list of bytes where it is to hold what no str tells well.
    given = list(text.encode("latin-1")) if isinstance(text, str) else list(text)
    return [START, width, height, source, goes_round, len(given)] + given


def flat(calls):
    return [number for call in calls for number in call]


def split(answered):
    told = []
    place = 0
    while place < len(answered):
        end = place + 1 + answered[place]
        if end > len(answered):
            raise AssertionError(f"answers end within one: {answered}")
        told.append(answered[place + 1:end])
        place = end
    return told


def ask(*calls):
    # What each call is answered, call by call; each number is held to be a plain int.
    answered = answers(flat(calls))
    for number in answered:
        if type(number) is not int:
            raise AssertionError(f"{number!r} is no whole number")
    told = split(answered)
    if len(told) != len(calls):
        raise AssertionError(f"{len(calls)} calls, {len(told)} answers")
    return told


def after(first, *calls):
    # As ask, without what the first call (a start) is answered.
    return ask(first, *calls)[1:]
