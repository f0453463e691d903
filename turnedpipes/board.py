"""The calls on one object, as one list of whole numbers, and what is answered, as another."""

from turnedpipes.game import Game
from turnedpipes.handlers import answer

# How many whole numbers stand behind a call's own number, from call 0 on.
WHOLE_NUMBERS = (4, 2, 1, 1, 1, 0, 0, 1, 0, 0, 0, 1, 2, 0, 1, 1, 0, 0, 0, 1, 0, 0, 1, 1, 0, 0, 0, 0)

# The calls that have a text behind these, with how many bytes it has before it.
TEXT_CALLS = (0, 20)


def split_calls(calls):
    # Each call as a list: its own number, its whole numbers, its text's bytes.
    found = []
    place = 0
    while place < len(calls):
        number = calls[place]
        end = place + 1 + WHOLE_NUMBERS[number]
        call = calls[place:end]
        if number in TEXT_CALLS:
            begin = end + 1
            end = begin + calls[end]
            call.extend(calls[begin:end])
        found.append(call)
        place = end
    return found


def answers(calls):
    game = Game()
    answered = []
    for call in split_calls(calls):
        told = answer(game, call[0], call[1:])
        answered.append(len(told))
        answered.extend(told)
    return answered
